"""Point 4: coming off lasts, finishing, cutting by a plan."""

import random
import unittest

from tests.lines import FEET, LAST, WIDEST, last_of, run, shop_with, style
from tests.trials import cut_by_chance, left_behind, plan_by_trial


class ComingOff(unittest.TestCase):
    def setUp(self):
        self.calls = shop_with([100], [1, 1]) + [("cb_day", 7), ("cb_take", 3), ("cb_put", 0)]

    def test_not_ahead_of_the_third_day(self):
        days = [("cb_off", 0), ("cb_day", 1)]
        rows = run(*self.calls, *days, *days, *days, ("cb_off", 0))
        self.assertEqual(rows[-7:], [[-13], [8], [-13], [9], [-13], [10], [0]])

    def test_any_day_behind_that(self):
        self.assertEqual(last_of(*self.calls, ("cb_day", 4), ("cb_off", 0)), [0])
        self.assertEqual(last_of(*self.calls, ("cb_day", 9993), ("cb_off", 0)), [0])

    def test_each_counts_from_its_own_day(self):
        calls = self.calls + [("cb_day", 2), ("cb_put", 1), ("cb_day", 1)]
        self.assertEqual(run(*calls, ("cb_off", 1), ("cb_off", 0))[-2:], [[-13], [0]])

    def test_not_from_day_9998_on(self):
        calls = shop_with([100], [1, 1]) + [("cb_take", 3), ("cb_day", 9997), ("cb_put", 0)]
        calls.extend([("cb_day", 1), ("cb_put", 1)])
        self.assertEqual(run(*calls, ("cb_day", 2), ("cb_off", 0), ("cb_off", 1))[-3:], [[10000], [0], [-13]])

    def test_tells_the_last(self):
        lasts = [("cb_last", 400000, 5, 1), ("cb_last", 350000, 5, 1), ("cb_last", 300000, 5, 1)]
        feet = [("cb_feet", 310000, 310000, 5), FEET]
        calls = lasts + feet + [style(1), ("cb_hide", 9), ("cb_order", 1, 0), ("cb_order", 0, 0), ("cb_take", 3)]
        rows = run(*calls, ("cb_put", 0), ("cb_put", 1), ("cb_day", 3), ("cb_off", 0), ("cb_off", 1))
        self.assertEqual(rows[-2:], [[2], [1]])

    def test_only_when_it_is_on_its_last(self):
        calls = shop_with([100], [1])
        for later in [("cb_cut", 0, 0), ("cb_put", 0)]:
            self.assertEqual(last_of(*calls, ("cb_off", 0)), [-16], later)
            self.assertEqual(last_of(*calls, ("cb_day", 5), ("cb_off", 0)), [-16], later)
            calls.append(later)
        calls.extend([("cb_day", 3), ("cb_off", 0)])
        self.assertEqual(last_of(*calls, ("cb_off", 0)), [-16])
        self.assertEqual(last_of(*calls, ("cb_finish", 0), ("cb_off", 0)), [-16])


class Finishing(unittest.TestCase):
    def test_tells_how_many_are(self):
        calls = shop_with([100], [1, 1, 1]) + [("cb_take", 7)] + [("cb_put", k) for k in range(3)]
        calls.extend([("cb_day", 3)] + [("cb_off", k) for k in range(3)])
        self.assertEqual(run(*calls, ("cb_finish", 2), ("cb_finish", 0), ("cb_finish", 1))[-3:], [[1], [2], [3]])

    def test_only_when_it_is_off_its_last_and_once(self):
        calls = shop_with([100], [1])
        for later in [("cb_cut", 0, 0), ("cb_put", 0), ("cb_day", 3), ("cb_off", 0)]:
            self.assertEqual(last_of(*calls, ("cb_finish", 0)), [-16], later)
            calls.append(later)
        self.assertEqual(run(*calls, ("cb_finish", 0), ("cb_finish", 0))[-2:], [[1], [-16]])


def how_many(calls, name):
    return len([call for call in calls if call[0] == name])


def left_in(calls, hides):
    """What each hide has left: the most that one further order can be cut out of it, 20,000 at most."""
    left = []
    for h in range(hides):
        low, high = 0, 20000
        while low < high:
            area = (low + high + 1) // 2
            order = ("cb_order", 0, how_many(calls, "cb_style"))
            told = last_of(*calls, style(area), order, ("cb_cut", how_many(calls, "cb_order"), h))
            if told == [-12]:
                high = area - 1
            else:
                low = area
        left.append(low)
    return left


class Taking(unittest.TestCase):
    def take(self, hides, areas, cut=(), orders=None):
        """What taking answers, and what the hides have left then."""
        calls = shop_with(hides, areas) + [("cb_cut", k, h) for k, h in cut]
        calls.append(("cb_take", 2 ** len(areas) - 1 if orders is None else orders))
        return last_of(*calls), left_in(calls, len(hides))

    def test_as_few_whole_hides_as_can_be(self):
        self.assertEqual(self.take([10, 10, 20], [10, 10]), ([1], [10, 10, 0]))
        self.assertEqual(self.take([10, 10], [10, 10]), ([2], [0, 0]))

    def test_hides_that_were_cut_into_come_first(self):
        self.assertEqual(self.take([50, 50], [5, 9], [(0, 1)], 2), ([0], [50, 36]))

    def test_a_hide_is_not_whole_once_it_is_cut_even_if_it_was_finished(self):
        calls = shop_with([50, 50], [5, 9]) + [
            ("cb_cut", 0, 1), ("cb_put", 0), ("cb_day", 3), ("cb_off", 0), ("cb_finish", 0), ("cb_take", 2),
        ]
        self.assertEqual(last_of(*calls), [0])
        self.assertEqual(left_in(calls, 2), [50, 36])

    def test_of_like_plans_the_first(self):
        self.assertEqual(self.take([50, 50], [5]), ([1], [45, 50]))
        self.assertEqual(self.take([8, 12, 12], [8, 4, 8]), ([2], [0, 0, 12]))
        self.assertEqual(self.take([5, 7, 12, 9], [5, 7]), ([1], [5, 7, 0, 9]))

    def test_the_first_order_has_the_lesser_hide_ahead_of_the_second(self):
        self.assertEqual(self.take([4, 6, 6], [4, 6]), ([2], [0, 0, 6]))
        self.assertEqual(self.take([6, 4, 6], [4, 6]), ([2], [2, 4, 0]))

    def test_just_enough_leather_and_one_less(self):
        self.assertEqual(self.take([30], [10, 20]), ([1], [0]))
        self.assertEqual(self.take([29], [10, 20]), ([-33], [29]))

    def test_no_plan(self):
        self.assertEqual(self.take([15, 15], [10, 10, 10]), ([-33], [15, 15]))
        self.assertEqual(last_of(*shop_with([], [1]), ("cb_take", 1)), [-33])

    def test_for_no_orders(self):
        self.assertEqual(last_of(("cb_take", 0)), [0])
        self.assertEqual(self.take([50], [5], (), 0), ([0], [50]))

    def test_orders_that_are_cut_do_not_count(self):
        self.assertEqual(self.take([50, 50], [5, 9], [(0, 1)], 3), ([0], [50, 36]))
        self.assertEqual(self.take([50], [5], [(0, 0)], 1), ([0], [45]))
        self.assertEqual(last_of(*shop_with([9], [5]), ("cb_take", 1), ("cb_take", 1)), [0])

    def test_orders_that_are_not_named_are_not_cut(self):
        calls = shop_with([50], [5, 6, 7]) + [("cb_take", 5)]
        self.assertEqual(run(*calls, ("cb_put", 0), ("cb_put", 1), ("cb_put", 2))[-4:], [[1], [3], [-16], [3]])

    def test_each_is_cut_out_of_its_hide_and_can_go_on(self):
        calls = shop_with([5, 6], [6, 5]) + [("cb_take", 3)]
        self.assertEqual(run(*calls, ("cb_put", 0), ("cb_put", 1), ("cb_cut", 1, 1))[-3:], [[3], [3], [-17]])
        self.assertEqual(left_in(calls, 2), [0, 0])

    def test_4_and_5_that_are_not_cut(self):
        calls = shop_with([50], [1] * 6)
        self.assertEqual(last_of(*calls, ("cb_take", 0b1111)), [1])
        self.assertEqual(last_of(*calls, ("cb_take", 0b11111)), [-28])
        self.assertEqual(last_of(*calls, ("cb_cut", 2, 0), ("cb_take", 0b11111)), [0])
        self.assertEqual(last_of(*calls, ("cb_cut", 2, 0), ("cb_take", 0b111111)), [-28])

    def test_one_that_is_not_there(self):
        calls = shop_with([50], [1, 1])
        for orders in (4, 5, 7, 8, 1 << 10, 1 << 31, (1 << 31) + 1, WIDEST):
            self.assertEqual(last_of(*calls, ("cb_take", orders)), [-22], orders)
        full = shop_with([50], [1] * 10) + [("cb_cut", k, 0) for k in range(10)]
        self.assertEqual(last_of(*full, ("cb_take", 1023)), [0])
        self.assertEqual(last_of(*full, ("cb_take", 1024)), [-22])

    def test_which_refusal_is_told_first(self):
        calls = shop_with([3], [9] * 6)
        self.assertEqual(last_of(*calls, ("cb_take", 0b1011111)), [-22])
        self.assertEqual(last_of(*calls, ("cb_take", 0b11111)), [-28])
        self.assertEqual(last_of(*calls, ("cb_take", 0b1111)), [-33])

    def test_a_refused_one_cuts_nothing(self):
        calls = shop_with([10], [4, 9])
        self.assertEqual(run(*calls, ("cb_take", 3), ("cb_put", 0), ("cb_cut", 0, 0))[-3:], [[-33], [-16], [6]])

    def test_a_pair_takes_what_its_own_last_asks(self):
        lasts = [LAST, ("cb_last", 600000, 9, 1)]
        feet = [FEET, ("cb_feet", 500000, 500000, 9)]
        calls = lasts + feet + [style(5), ("cb_hide", 19), ("cb_hide", 20), ("cb_order", 1, 0), ("cb_take", 1)]
        self.assertEqual(last_of(*calls), [1])
        self.assertEqual(left_in(calls, 2), [19, 0])

    def test_as_by_trial_of_all_plans(self):
        chance = random.Random(58)
        for round_number in range(150):
            hides, areas, cut = cut_by_chance(chance, 6)
            named = [k for k in range(len(areas)) if k not in dict(cut)]
            if len(named) > 4:
                continue
            best = plan_by_trial(hides, areas, cut, named)
            told = self.take(hides, areas, cut)
            if best is None:
                self.assertEqual(told, ([-33], left_behind(hides, areas, cut)))
                continue
            left = left_behind(hides, areas, cut + list(zip(named, best[1])))
            self.assertEqual(told, ([best[0]], left), (hides, areas, cut))


if __name__ == "__main__":
    unittest.main()
