"""Point 7: the plan, pairs of lasts that are free, when an order may come off."""

import random
import unittest

from tests.lines import FEET, WIDEST, last_of, look, run, shop_with, style
from tests.trials import cut_by_chance, plan_by_trial


def plan(hides, areas, cut=(), orders=None):
    calls = shop_with(hides, areas) + [("cb_cut", k, h) for k, h in cut]
    return last_of(*calls, ("cb_plan", 2 ** len(areas) - 1 if orders is None else orders))


class Plan(unittest.TestCase):
    def test_for_no_orders(self):
        self.assertEqual(last_of(("cb_plan", 0)), [0, 0, 0, 0, 0, 0])
        self.assertEqual(plan([50], [5], (), 0), [0, 0, 0, 0, 0, 0])
        self.assertEqual(plan([], [5], (), 0), [0, 0, 0, 0, 0, 0])

    def test_for_1_to_4_orders_with_0_behind_them(self):
        self.assertEqual(plan([4, 50], [5]), [1, 1, 1, 0, 0, 0])
        self.assertEqual(plan([4, 50], [5, 5]), [1, 2, 1, 1, 0, 0])
        self.assertEqual(plan([4, 14, 5], [5, 5, 5]), [2, 3, 1, 1, 2, 0])
        self.assertEqual(plan([4, 4, 4, 4, 8], [4, 4, 4, 4]), [3, 4, 0, 1, 4, 4])

    def test_the_fewest_whole_hides(self):
        self.assertEqual(plan([10, 10, 20], [10, 10]), [1, 2, 2, 2, 0, 0])
        self.assertEqual(plan([10, 10], [10, 10]), [2, 2, 0, 1, 0, 0])
        self.assertEqual(plan([50, 50], [5, 9], [(0, 1)], 2), [0, 1, 1, 0, 0, 0])

    def test_of_like_ones_the_first(self):
        self.assertEqual(plan([50, 50], [5]), [1, 1, 0, 0, 0, 0])
        self.assertEqual(plan([6, 4, 6], [4, 6]), [2, 2, 0, 2, 0, 0])
        self.assertEqual(plan([8, 12, 12], [8, 4, 8]), [2, 3, 0, 1, 1, 0])
        self.assertEqual(plan([9, 20, 20], [5, 5, 9], [(0, 2)], 6), [0, 2, 2, 2, 0, 0])

    def test_hides_that_were_cut_into_cost_nothing(self):
        cut = [(0, 0), (1, 1)]
        self.assertEqual(plan([10, 12, 30], [5, 5, 5, 6], cut, 12), [0, 2, 0, 1, 0, 0])
        self.assertEqual(plan([10, 10, 30], [5, 5, 5, 6], cut, 12), [1, 2, 0, 2, 0, 0])

    def test_orders_that_are_cut_do_not_count(self):
        self.assertEqual(plan([50, 50], [5, 9], [(0, 1)]), [0, 1, 1, 0, 0, 0])
        self.assertEqual(plan([50, 50], [5, 9], [(1, 1)]), [0, 1, 1, 0, 0, 0])
        self.assertEqual(plan([50], [5, 9], [(0, 0), (1, 0)]), [0, 0, 0, 0, 0, 0])
        cut = [(2, 1), (4, 1)]
        self.assertEqual(plan([50, 50], [9] * 6, cut), [1, 4, 0, 0, 0, 0])

    def test_orders_at_later_stages_do_not_count_either(self):
        calls = shop_with([5, 10], [5, 5]) + [("cb_cut", 0, 1)]
        for later in [("cb_put", 0), ("cb_day", 3), ("cb_off", 0), ("cb_finish", 0)]:
            calls.append(later)
            self.assertEqual(last_of(*calls, ("cb_plan", 3)), [0, 1, 1, 0, 0, 0])

    def test_only_those_that_are_named(self):
        self.assertEqual(plan([5, 6, 7], [7, 6, 5], (), 0b101), [2, 2, 2, 0, 0, 0])
        self.assertEqual(plan([5, 6, 7], [7, 6, 5], (), 0b110), [2, 2, 1, 0, 0, 0])

    def test_just_enough_leather_and_one_less(self):
        self.assertEqual(plan([30], [10, 20]), [1, 2, 0, 0, 0, 0])
        self.assertEqual(plan([29], [10, 20]), [-33])

    def test_no_plan(self):
        self.assertEqual(plan([15, 15], [10, 10, 10]), [-33])
        self.assertEqual(plan([], [1]), [-33])

    def test_more_than_4_that_are_not_cut(self):
        self.assertEqual(plan([50], [1] * 5), [-28])
        self.assertEqual(plan([50], [1] * 5, [(3, 0)]), [0, 4, 0, 0, 0, 0])
        self.assertEqual(plan([50], [1] * 10, [(k, 0) for k in range(6)]), [0, 4, 0, 0, 0, 0])
        self.assertEqual(plan([50], [1] * 10, [(k, 0) for k in range(5)]), [-28])

    def test_one_that_is_not_there(self):
        for orders in (4, 5, 7, 8, 1 << 10, 1 << 31, (1 << 31) + 1, WIDEST):
            self.assertEqual(plan([50], [1, 1], (), orders), [-22])
        self.assertEqual(last_of(("cb_plan", 1)), [-22])

    def test_which_refusal_is_told_first(self):
        self.assertEqual(plan([3], [9] * 6, (), 0b1011111), [-22])
        self.assertEqual(plan([3], [9] * 6, (), 0b11111), [-28])
        self.assertEqual(plan([3], [9] * 6, (), 0b1111), [-33])
        self.assertEqual(plan([3], [9] * 2, (), 0b110), [-22])

    def test_changes_nothing(self):
        calls = shop_with([10, 20], [4, 9, 8]) + [("cb_take", 1)]
        for orders in (0, 6, 7, 8):
            self.assertEqual(look(*calls, ("cb_plan", orders)), look(*calls))
            self.assertEqual(last_of(*calls, ("cb_plan", orders), ("cb_take", 7)), last_of(*calls, ("cb_take", 7)))
        self.assertEqual(run(*calls, ("cb_plan", 6), ("cb_plan", 6))[-1], [1, 2, 1, 1, 0, 0])

    def test_taking_cuts_as_it_says(self):
        calls = shop_with([4, 14, 5], [5, 5, 5, 4]) + [("cb_cut", 1, 1)]
        told = last_of(*calls, ("cb_plan", 15))
        self.assertEqual(told, [1, 3, 1, 2, 1, 0])
        rows = run(*calls, ("cb_take", 15), ("cb_from", 0), ("cb_from", 2), ("cb_from", 3), ("cb_from", 1))
        self.assertEqual(rows[-5:], [[1], [1], [2], [1], [1]])

    def test_as_by_trial_of_all_plans(self):
        chance = random.Random(77)
        seen = set()
        for round_number in range(400):
            hides, areas, cut = cut_by_chance(chance, 8)
            orders = chance.randrange(2 ** len(areas))
            named = [k for k in range(len(areas)) if orders >> k & 1 and k not in dict(cut)]
            told = plan(hides, areas, cut, orders)
            seen.add(tuple(told[:2]))
            if len(named) > 4:
                self.assertEqual(told, [-28])
                continue
            best = plan_by_trial(hides, areas, cut, named)
            if best is None:
                self.assertEqual(told, [-33])
                continue
            self.assertEqual(told, [best[0], len(named)] + (best[1] + [0] * 4)[:4], (hides, areas, cut, orders))
        self.assertGreater(len(seen), 8)


def on_lasts(pairs, orders):
    """Orders that are cut, all for one last with so many pairs."""
    calls = [("cb_last", 300000, 5, pairs), FEET, style(1), ("cb_hide", 50)]
    return calls + [("cb_order", 0, 0)] * orders + [("cb_cut", k, 0) for k in range(orders)]


class Free(unittest.TestCase):
    def test_all_of_them_today(self):
        self.assertEqual(last_of(*on_lasts(3, 2), ("cb_free", 0)), [3, 3, 0])
        self.assertEqual(last_of(*on_lasts(9, 2), ("cb_day", 12), ("cb_free", 0)), [9, 9, 12])

    def test_today_as_long_as_one_is(self):
        calls = on_lasts(3, 3) + [("cb_day", 4), ("cb_put", 0)]
        self.assertEqual(last_of(*calls, ("cb_free", 0)), [2, 3, 4])
        self.assertEqual(last_of(*calls, ("cb_put", 1), ("cb_free", 0)), [1, 3, 4])
        self.assertEqual(last_of(*calls, ("cb_put", 1), ("cb_day", 1), ("cb_free", 0)), [1, 3, 5])

    def test_none_is_the_least_of_the_third_days(self):
        calls = on_lasts(3, 3) + [("cb_day", 4), ("cb_put", 1), ("cb_day", 1), ("cb_put", 0), ("cb_put", 2)]
        self.assertEqual(last_of(*calls, ("cb_free", 0)), [0, 3, 7])
        self.assertEqual(last_of(*calls, ("cb_day", 2), ("cb_free", 0)), [0, 3, 7])

    def test_none_and_the_least_lies_behind(self):
        calls = on_lasts(2, 2) + [("cb_put", 1), ("cb_day", 1), ("cb_put", 0)]
        self.assertEqual(last_of(*calls, ("cb_day", 2), ("cb_free", 0)), [0, 2, 3])
        self.assertEqual(last_of(*calls, ("cb_day", 3), ("cb_free", 0)), [0, 2, 4])
        self.assertEqual(last_of(*calls, ("cb_day", 999), ("cb_free", 0)), [0, 2, 1000])

    def test_one_is_free_again_when_an_order_is_off(self):
        calls = on_lasts(1, 2) + [("cb_put", 0), ("cb_day", 3), ("cb_off", 0)]
        self.assertEqual(last_of(*calls, ("cb_free", 0)), [1, 1, 3])
        self.assertEqual(last_of(*calls, ("cb_finish", 0), ("cb_free", 0)), [1, 1, 3])
        self.assertEqual(last_of(*calls, ("cb_put", 1), ("cb_free", 0)), [0, 1, 6])

    def test_behind_the_last_day(self):
        self.assertEqual(last_of(*on_lasts(1, 1), ("cb_day", 10000), ("cb_put", 0), ("cb_free", 0)), [0, 1, 10003])

    def test_each_last_by_itself(self):
        calls = [("cb_last", 300000, 5, 1), ("cb_last", 400000, 5, 2), FEET, ("cb_feet", 300000, 300000, 5)]
        calls.extend([style(1), ("cb_hide", 50), ("cb_order", 0, 0), ("cb_order", 1, 0), ("cb_take", 3)])
        calls.extend([("cb_put", 0), ("cb_day", 1), ("cb_put", 1)])
        self.assertEqual(run(*calls, ("cb_free", 0), ("cb_free", 1))[-2:], [[0, 1, 3], [1, 2, 1]])

    def test_a_last_that_is_not_there(self):
        self.assertEqual(last_of(("cb_free", 0)), [-2])
        for number in (1, 10, WIDEST):
            self.assertEqual(last_of(*on_lasts(1, 1), ("cb_free", number)), [-2])


class Soon(unittest.TestCase):
    def test_at_each_stage(self):
        calls = shop_with([9], [1]) + [("cb_day", 5)]
        told = []
        for later in [("cb_cut", 0, 0), ("cb_put", 0), ("cb_day", 1), ("cb_day", 2), ("cb_off", 0), ("cb_finish", 0)]:
            told.append(last_of(*calls, ("cb_soon", 0)))
            calls.append(later)
        told.append(last_of(*calls, ("cb_soon", 0)))
        self.assertEqual(told, [[-16], [8], [8], [8], [8], [-16], [-16]])

    def test_on_its_last_behind_the_third_day_it_is_today(self):
        calls = on_lasts(1, 1) + [("cb_put", 0)]
        for days, soon in ((2, 3), (3, 3), (4, 4), (100, 100), (10000, 10000)):
            self.assertEqual(last_of(*calls, ("cb_day", days), ("cb_soon", 0)), [soon])

    def test_cut_with_a_free_pair_three_days_behind_today(self):
        self.assertEqual(last_of(*on_lasts(1, 1), ("cb_soon", 0)), [3])
        self.assertEqual(last_of(*on_lasts(2, 2), ("cb_put", 0), ("cb_day", 7), ("cb_soon", 1)), [10])
        self.assertEqual(last_of(*on_lasts(1, 1), ("cb_day", 10000), ("cb_soon", 0)), [10003])

    def test_cut_without_a_free_pair_three_days_behind_the_least_third_day(self):
        calls = on_lasts(2, 3) + [("cb_day", 5), ("cb_put", 1), ("cb_day", 1), ("cb_put", 0)]
        self.assertEqual(last_of(*calls, ("cb_soon", 2)), [11])
        self.assertEqual(last_of(*calls, ("cb_day", 2), ("cb_soon", 2)), [11])
        self.assertEqual(last_of(*calls, ("cb_day", 3), ("cb_soon", 2)), [12])
        self.assertEqual(run(*calls, ("cb_soon", 0), ("cb_soon", 1))[-2:], [[9], [8]])

    def test_only_its_own_last_counts(self):
        calls = [("cb_last", 300000, 5, 1), ("cb_last", 400000, 5, 1), FEET, ("cb_feet", 300000, 300000, 5)]
        calls.extend([style(1), ("cb_hide", 50), ("cb_order", 0, 0), ("cb_order", 1, 0), ("cb_order", 0, 0)])
        calls.extend([("cb_take", 7), ("cb_put", 0), ("cb_day", 1)])
        self.assertEqual(run(*calls, ("cb_soon", 0), ("cb_soon", 1), ("cb_soon", 2))[-3:], [[3], [4], [6]])

    def test_it_comes_off_on_that_day_and_no_sooner(self):
        calls = on_lasts(1, 2) + [("cb_day", 5), ("cb_put", 0), ("cb_day", 1)]
        self.assertEqual(last_of(*calls, ("cb_soon", 1)), [11])
        calls.extend([("cb_day", 2), ("cb_off", 0), ("cb_put", 1)])
        rows = run(*calls, ("cb_soon", 1), ("cb_day", 2), ("cb_off", 1), ("cb_day", 1), ("cb_off", 1))
        self.assertEqual(rows[-6:], [[11], [11], [10], [-13], [11], [0]])

    def test_not_before_it_is_cut_even_if_no_pair_is_free(self):
        calls = [("cb_last", 300000, 5, 1), FEET, style(1), ("cb_hide", 50), ("cb_order", 0, 0), ("cb_order", 0, 0)]
        self.assertEqual(last_of(*calls, ("cb_cut", 0, 0), ("cb_put", 0), ("cb_soon", 1)), [-16])

    def test_an_order_that_is_not_there(self):
        self.assertEqual(last_of(("cb_soon", 0)), [-2])
        for k in (1, 10, WIDEST):
            self.assertEqual(last_of(*on_lasts(1, 1), ("cb_soon", k)), [-2])


if __name__ == "__main__":
    unittest.main()
