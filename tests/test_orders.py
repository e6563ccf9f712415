"""Point 3: orders, cutting, putting on lasts, days."""

import unittest
from fractions import Fraction
from math import ceil

from tests.lines import FEET, LAST, WIDEST, last_of, run, shop_with, style

BIG_HIDE = ("cb_hide", 60000)


def last_told(lasts, feet):
    return last_of(*lasts, feet, style(1), ("cb_order", 0, 0))


class Telling(unittest.TestCase):
    def test_orders_are_numbered_and_tell_their_last(self):
        lasts = [("cb_last", 500000, 5, 1), ("cb_last", 400000, 5, 1)]
        feet = [("cb_feet", 450000, 440000, 5), ("cb_feet", 300000, 310000, 3)]
        orders = [("cb_order", 0, 0), ("cb_order", 1, 0), ("cb_order", 1, 0)]
        self.assertEqual(run(*lasts, *feet, style(1), *orders)[-3:], [[0, 0], [1, 1], [2, 1]])

    def test_a_last_fits_from_just_36000_longer_on(self):
        feet = ("cb_feet", 300000, 300000, 5)
        self.assertEqual(last_told([("cb_last", 336000, 5, 1)], feet), [0, 0])
        self.assertEqual(last_told([("cb_last", 335999, 5, 1)], feet), [-33])
        self.assertEqual(last_told([("cb_last", 1136000, 9, 1)], ("cb_feet", 1100000, 200000, 9)), [0, 0])

    def test_the_longer_foot_counts(self):
        for left, right in ((300000, 400000), (400000, 300000)):
            feet = ("cb_feet", left, right, 5)
            self.assertEqual(last_told([("cb_last", 435999, 5, 1)], feet), [-33])
            self.assertEqual(last_told([("cb_last", 436000, 5, 1)], feet), [0, 0])

    def test_a_last_fits_that_is_as_wide_or_wider(self):
        for wide in range(10):
            for feet_wide in range(10):
                fits = [0, 0] if wide >= feet_wide else [-33]
                told = last_told([("cb_last", 400000, wide, 1)], ("cb_feet", 300000, 300000, feet_wide))
                self.assertEqual(told, fits)

    def test_the_smallest_is_the_shortest_then_the_narrowest_then_the_least(self):
        feet = ("cb_feet", 300000, 300000, 3)

        def told(*lasts):
            return last_told([("cb_last", length, wide, 1) for length, wide in lasts], feet)

        self.assertEqual(told((500000, 3), (400000, 9), (450000, 4)), [0, 1])
        self.assertEqual(told((400000, 9), (400000, 4), (400000, 5)), [0, 1])
        self.assertEqual(told((500000, 4), (400000, 4), (400000, 4)), [0, 1])
        self.assertEqual(told((400000, 4), (400000, 4)), [0, 0])
        self.assertEqual(told((300000, 4), (400000, 2), (410000, 3)), [0, 2])

    def test_a_last_that_comes_later_does_not_change_an_order(self):
        calls = [("cb_last", 600000, 5, 1), FEET, style(1), BIG_HIDE, ("cb_order", 0, 0), LAST, ("cb_order", 0, 0)]
        rows = run(*calls, ("cb_cut", 0, 0), ("cb_cut", 1, 0))
        self.assertEqual(rows[-3:], [[1, 1], [59996], [59995]])

    def test_there_are_at_most_10(self):
        orders = [("cb_order", 0, 0)] * 11
        self.assertEqual(run(LAST, FEET, style(1), *orders)[3:], [[k, 0] for k in range(10)] + [[-28]])

    def test_no_last_that_fits_comes_ahead_of_too_many(self):
        calls = [LAST, FEET, ("cb_feet", 300000, 300000, 5), style(1)] + [("cb_order", 0, 0)] * 10
        self.assertEqual(last_of(*calls, ("cb_order", 1, 0)), [-33])
        self.assertEqual(last_of(*calls, ("cb_order", 2, 0)), [-2])
        self.assertEqual(last_of(*calls, ("cb_order", 0, 1)), [-2])
        self.assertEqual(last_of(FEET, style(1), ("cb_order", 0, 0)), [-33])


class Cutting(unittest.TestCase):
    def test_tells_what_the_hide_has_left(self):
        calls = shop_with([100, 50], [30, 50, 70])
        self.assertEqual(run(*calls, ("cb_cut", 0, 0), ("cb_cut", 2, 0), ("cb_cut", 1, 1))[-3:], [[70], [0], [0]])

    def test_a_hide_with_just_enough_and_one_with_less(self):
        self.assertEqual(last_of(*shop_with([30], [30]), ("cb_cut", 0, 0)), [0])
        self.assertEqual(last_of(*shop_with([29], [30]), ("cb_cut", 0, 0)), [-12])
        rows = run(*shop_with([50], [30, 21, 20]), ("cb_cut", 0, 0), ("cb_cut", 1, 0), ("cb_cut", 2, 0))
        self.assertEqual(rows[-3:], [[20], [-12], [0]])

    def test_a_pair_takes_in_proportion_to_the_square_rounded_up(self):
        for area in (1, 2, 7, 1999, 20000):
            for style_length in (300000, 300001, 777777, 1200000):
                for length in (300000, 300001, 600000, 1199999, 1200000):
                    rows = run(
                        ("cb_last", length, 5, 1), FEET, ("cb_style", area, style_length), BIG_HIDE,
                        ("cb_order", 0, 0), ("cb_cut", 0, 0),
                    )
                    takes = ceil(Fraction(area * length ** 2, style_length ** 2))
                    self.assertEqual(rows[-1], [60000 - takes] if takes <= 60000 else [-12])

    def test_just_in_proportion_is_not_rounded(self):
        calls = [("cb_last", 600000, 5, 1), FEET, ("cb_style", 25, 300000), ("cb_style", 25, 1200000), ("cb_hide", 107)]
        orders = [("cb_order", 0, 0), ("cb_order", 0, 1), ("cb_cut", 0, 0), ("cb_cut", 1, 0)]
        self.assertEqual(run(*calls, *orders)[-2:], [[7], [0]])

    def test_cut_already_comes_ahead_of_too_little_leather(self):
        calls = shop_with([30, 30], [30])
        self.assertEqual(run(*calls, ("cb_cut", 0, 0), ("cb_cut", 0, 0), ("cb_cut", 0, 1))[-3:], [[0], [-17], [-17]])

    def test_it_is_cut_at_each_later_stage(self):
        calls = shop_with([100], [30]) + [("cb_cut", 0, 0)]
        for later in [("cb_put", 0), ("cb_day", 3), ("cb_off", 0), ("cb_finish", 0)]:
            calls.append(later)
            self.assertEqual(last_of(*calls, ("cb_cut", 0, 0)), [-17], later)

    def test_an_order_cut_by_take_is_cut(self):
        self.assertEqual(last_of(*shop_with([100], [30]), ("cb_take", 1), ("cb_cut", 0, 0)), [-17])


class Putting(unittest.TestCase):
    def test_tells_the_third_day(self):
        calls = shop_with([100], [1, 1, 1]) + [("cb_take", 7)]
        rows = run(*calls, ("cb_put", 1), ("cb_day", 5), ("cb_put", 0), ("cb_day", 9995), ("cb_put", 2))
        self.assertEqual(rows[-5:], [[3], [5], [8], [10000], [10003]])

    def test_not_before_it_is_cut(self):
        calls = shop_with([100], [1])
        self.assertEqual(run(*calls, ("cb_put", 0), ("cb_cut", 0, 0), ("cb_put", 0))[-3:], [[-16], [99], [3]])

    def test_once_only(self):
        calls = shop_with([100], [1]) + [("cb_cut", 0, 0), ("cb_put", 0)]
        for later in [("cb_day", 3), ("cb_off", 0), ("cb_finish", 0)]:
            self.assertEqual(last_of(*calls, ("cb_put", 0)), [-16], later)
            calls.append(later)
        self.assertEqual(last_of(*calls, ("cb_put", 0)), [-16])

    def test_as_many_as_there_are_pairs(self):
        for pairs in (1, 2, 9):
            calls = [("cb_last", 300000, 5, pairs), FEET, style(1), BIG_HIDE]
            calls.extend([("cb_order", 0, 0)] * 10)
            calls.extend([("cb_cut", k, 0) for k in range(10)])
            rows = run(*calls, *[("cb_put", k) for k in range(10)])
            self.assertEqual(rows[-10:], [[3]] * pairs + [[-12]] * (10 - pairs))

    def test_a_pair_is_free_again_when_an_order_comes_off(self):
        calls = [("cb_last", 300000, 5, 1), FEET, style(1), BIG_HIDE, ("cb_order", 0, 0), ("cb_order", 0, 0)]
        calls.extend([("cb_take", 3), ("cb_put", 0), ("cb_day", 3)])
        self.assertEqual(run(*calls, ("cb_put", 1), ("cb_off", 0), ("cb_put", 1))[-3:], [[-12], [0], [6]])

    def test_other_lasts_do_not_count(self):
        lasts = [("cb_last", 300000, 5, 1), ("cb_last", 400000, 5, 1)]
        feet = [FEET, ("cb_feet", 300000, 300000, 5)]
        calls = lasts + feet + [style(1), BIG_HIDE, ("cb_order", 0, 0), ("cb_order", 1, 0), ("cb_take", 3)]
        self.assertEqual(run(*calls, ("cb_put", 0), ("cb_put", 1))[-2:], [[3], [3]])

    def test_the_wrong_stage_comes_ahead_of_no_free_pair(self):
        calls = [("cb_last", 300000, 5, 1), FEET, style(1), BIG_HIDE, ("cb_order", 0, 0), ("cb_order", 0, 0)]
        self.assertEqual(run(*calls, ("cb_cut", 0, 0), ("cb_put", 0), ("cb_put", 0), ("cb_put", 1))[-2:], [[-16]] * 2)


class Days(unittest.TestCase):
    def test_go_by(self):
        self.assertEqual(run(("cb_day", 1), ("cb_day", 2), ("cb_day", 40)), [[1], [3], [43]])

    def test_not_none(self):
        self.assertEqual(run(("cb_day", 0), ("cb_day", 1), ("cb_day", 0)), [[-22], [1], [-22]])

    def test_the_last_one_is_10000(self):
        self.assertEqual(run(("cb_day", 10000), ("cb_day", 1)), [[10000], [-22]])
        self.assertEqual(run(("cb_day", 10001), ("cb_day", WIDEST), ("cb_day", 10000)), [[-22], [-22], [10000]])
        self.assertEqual(run(("cb_day", 9000), ("cb_day", 1001), ("cb_day", 1000)), [[9000], [-22], [10000]])


if __name__ == "__main__":
    unittest.main()
