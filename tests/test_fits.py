"""Point 6: which lasts fit and the smallest of them, its size, what an order takes."""

import random
import unittest
from fractions import Fraction
from math import ceil

from tests.lines import FEET, LAST, WIDEST, last_of, run, shop_with, style


def which(lasts, feet):
    return last_of(*[("cb_last",) + last for last in lasts], ("cb_feet",) + feet, ("cb_which", 0))


def fit(last, feet):
    return last_of(("cb_last",) + last, ("cb_feet",) + feet, ("cb_fit", 0, 0))


class Which(unittest.TestCase):
    feet = (300000, 290000, 3)

    def test_the_smallest_and_how_many_kinds_fit(self):
        self.assertEqual(which([(500000, 3, 1), (400000, 9, 1), (450000, 4, 1)], self.feet), [1, 3])
        self.assertEqual(which([(500000, 2, 1), (300000, 9, 1), (450000, 4, 1)], self.feet), [2, 1])
        self.assertEqual(which([(400000, 3, 1)] * 10, self.feet), [0, 10])

    def test_kinds_are_counted_and_not_pairs(self):
        self.assertEqual(which([(400000, 3, 9), (410000, 3, 9)], self.feet), [0, 2])

    def test_of_those_as_short_the_narrowest_then_the_least(self):
        self.assertEqual(which([(400000, 9, 1), (400000, 5, 1), (400000, 4, 1), (400000, 5, 1)], self.feet), [2, 4])
        self.assertEqual(which([(400000, 9, 1), (400000, 4, 1), (400000, 4, 1)], self.feet), [1, 3])
        self.assertEqual(which([(400000, 2, 1), (400000, 5, 1), (400001, 3, 1)], self.feet), [1, 2])

    def test_a_shorter_one_comes_ahead_of_a_narrower_one(self):
        self.assertEqual(which([(400001, 3, 1), (400000, 9, 1)], self.feet), [1, 2])

    def test_just_36000_longer_and_one_less(self):
        self.assertEqual(which([(335999, 3, 1), (336000, 3, 1)], self.feet), [1, 1])
        self.assertEqual(which([(335999, 3, 1)], self.feet), [-33])

    def test_no_last_fits(self):
        self.assertEqual(which([], self.feet), [-33])
        self.assertEqual(which([(1200000, 2, 9), (300000, 9, 9)], self.feet), [-33])

    def test_of_the_feet_that_are_named(self):
        calls = [LAST, ("cb_last", 400000, 7, 1), ("cb_feet", 250000, 310000, 7), FEET]
        self.assertEqual(run(*calls, ("cb_which", 0), ("cb_which", 1))[-2:], [[1, 1], [0, 2]])

    def test_a_last_counts_even_if_no_pair_of_it_is_free(self):
        calls = [("cb_last", 300000, 5, 1), FEET, style(1), ("cb_hide", 9), ("cb_order", 0, 0), ("cb_take", 1)]
        self.assertEqual(last_of(*calls, ("cb_put", 0), ("cb_which", 0)), [0, 1])

    def test_a_last_that_comes_later_counts(self):
        calls = [("cb_last", 500000, 5, 1), FEET, ("cb_which", 0), LAST, ("cb_which", 0)]
        self.assertEqual(run(*calls)[2::2], [[0, 1], [1, 2]])

    def test_feet_that_are_not_there(self):
        for f in (1, 31, 32, WIDEST):
            self.assertEqual(last_of(LAST, FEET, ("cb_which", f)), [-2])
            self.assertEqual(last_of(FEET, ("cb_which", f)), [-2])
        self.assertEqual(last_of(LAST, ("cb_which", 0)), [-2])

    def test_the_smallest_does_fit_and_none_that_does_is_smaller(self):
        chance = random.Random(16)
        for round_number in range(200):
            lengths = [chance.randint(300000, 400000) for kind in range(3)]
            lasts = [(chance.choice(lengths), chance.randint(0, 4), 1) for n in range(chance.randint(0, 10))]
            feet = (chance.choice(lengths) - 36000 + chance.randint(-1, 1), 200000, chance.randint(0, 4))
            fitting = [n for n, last in enumerate(lasts) if last[0] - feet[0] >= 36000 and last[1] >= feet[2]]
            told = which(lasts, feet)
            if not fitting:
                self.assertEqual(told, [-33])
                continue
            smallest = sorted(fitting, key=lambda n: lasts[n][:2] + (n,))[0]
            self.assertEqual(told, [smallest, len(fitting)])


class Size(unittest.TestCase):
    def size(self, system, length):
        told = last_of(("cb_system",) + system, ("cb_last", length, 5, 1), FEET, ("cb_size", 0, 0))
        self.assertEqual(len(told), 1)
        return told[0] - 100000

    def test_the_nearest_to_the_length_of_the_last(self):
        self.assertEqual(self.size((0, 20000), 840000), 42)
        self.assertEqual(self.size((0, 20000), 849999), 42)
        self.assertEqual(self.size((0, 20000), 830001), 42)
        self.assertEqual(self.size((0, 20000), 829999), 41)
        self.assertEqual(self.size((304800, 25400), 800000), 19)

    def test_of_two_as_near_the_greater(self):
        self.assertEqual(self.size((0, 20000), 850000), 43)
        self.assertEqual(self.size((0, 20000), 830000), 42)
        self.assertEqual(self.size((1000000, 20000), 850000), -7)
        self.assertEqual(self.size((1000000, 20000), 830000), -8)

    def test_below_0_and_the_farthest(self):
        self.assertEqual(self.size((1000000, 1000), 300000), -700)
        self.assertEqual(self.size((-1000000, 1000), 1200000), 2200)
        self.assertEqual(self.size((300000, 100000), 300000), 0)

    def test_of_the_smallest_that_fits(self):
        lasts = [("cb_last", 500000, 5, 1), ("cb_last", 300000, 4, 1), ("cb_last", 400000, 5, 1)]
        self.assertEqual(last_of(("cb_system", 0, 100000), *lasts, FEET, ("cb_size", 0, 0)), [100004])

    def test_of_the_feet_and_the_system_that_are_named(self):
        calls = [("cb_system", 0, 100000), ("cb_system", 0, 50000), LAST, ("cb_last", 400000, 7, 1), FEET]
        calls.append(("cb_feet", 310000, 310000, 6))
        asked = [("cb_size", f, a) for f in (0, 1) for a in (0, 1)]
        self.assertEqual(run(*calls, *asked)[-4:], [[100003], [100006], [100004], [100008]])

    def test_no_last_fits(self):
        self.assertEqual(last_of(("cb_system", 0, 1000), FEET, ("cb_size", 0, 0)), [-33])
        short = ("cb_last", 300000, 4, 1)
        self.assertEqual(last_of(("cb_system", 0, 1000), short, FEET, ("cb_size", 0, 0)), [-33])

    def test_what_is_not_there_comes_first(self):
        for calls in ([("cb_system", 0, 1000), FEET], [("cb_system", 0, 1000), FEET, LAST]):
            for f, a in ((1, 0), (0, 1), (1, 1), (WIDEST, 0), (0, WIDEST)):
                self.assertEqual(last_of(*calls, ("cb_size", f, a)), [-2])
        self.assertEqual(last_of(LAST, FEET, ("cb_size", 0, 0)), [-2])
        self.assertEqual(last_of(LAST, ("cb_system", 0, 1000), ("cb_size", 0, 0)), [-2])


class Fit(unittest.TestCase):
    def test_just_36000_longer_than_the_longer_foot(self):
        for feet in ((300000, 400000, 5), (400000, 300000, 5), (400000, 400000, 5)):
            self.assertEqual(fit((436000, 5, 1), feet), [1])
            self.assertEqual(fit((435999, 5, 1), feet), [0])
            self.assertEqual(fit((1200000, 5, 1), feet), [1])
            self.assertEqual(fit((400000, 5, 1), feet), [0])

    def test_as_wide_or_wider(self):
        for wide in range(10):
            for feet_wide in range(10):
                told = fit((400000, wide, 1), (300000, 300000, feet_wide))
                self.assertEqual(told, [1 if wide >= feet_wide else 0])

    def test_of_the_feet_and_the_last_that_are_named(self):
        calls = [LAST, ("cb_last", 400000, 7, 1), FEET, ("cb_feet", 310000, 310000, 6), ("cb_feet", 999999, 200000, 0)]
        asked = [("cb_fit", f, number) for f in (0, 1, 2) for number in (0, 1)]
        self.assertEqual(run(*calls, *asked)[-6:], [[1], [1], [0], [1], [0], [0]])

    def test_what_is_not_there(self):
        calls = [LAST, ("cb_last", 400000, 5, 1), FEET]
        for f, number in ((1, 0), (1, 1), (0, 2), (1, 2), (WIDEST, 0), (0, WIDEST)):
            self.assertEqual(last_of(*calls, ("cb_fit", f, number)), [-2])
        self.assertEqual(last_of(*calls, ("cb_fit", 0, 1)), [1])


class Takes(unittest.TestCase):
    def test_as_the_squares_in_proportion_rounded_up(self):
        for area in (1, 3, 1999, 20000):
            for style_length in (300000, 300001, 1200000):
                for length in (300000, 300001, 999999, 1200000):
                    calls = [("cb_last", length, 5, 1), FEET, ("cb_style", area, style_length), ("cb_order", 0, 0)]
                    takes = ceil(Fraction(area * length ** 2, style_length ** 2))
                    self.assertEqual(last_of(*calls, ("cb_takes", 0)), [takes])

    def test_the_most_and_the_least(self):
        self.assertEqual(
            last_of(("cb_last", 1200000, 5, 1), FEET, ("cb_style", 20000, 300000), ("cb_order", 0, 0), ("cb_takes", 0)),
            [320000],
        )
        self.assertEqual(
            last_of(LAST, FEET, ("cb_style", 16, 1200000), ("cb_order", 0, 0), ("cb_takes", 0)), [1],
        )
        self.assertEqual(
            last_of(LAST, FEET, ("cb_style", 17, 1200000), ("cb_order", 0, 0), ("cb_takes", 0)), [2],
        )

    def test_of_the_order_that_is_named_by_its_own_last(self):
        calls = [("cb_last", 600000, 5, 1), FEET, style(10), style(7), ("cb_order", 0, 0), LAST, ("cb_order", 0, 1)]
        self.assertEqual(run(*calls, ("cb_takes", 0), ("cb_takes", 1), ("cb_takes", 2))[-3:], [[40], [7], [-2]])

    def test_the_same_at_every_stage(self):
        calls = shop_with([50], [9])
        for later in [("cb_take", 1), ("cb_put", 0), ("cb_day", 3), ("cb_off", 0), ("cb_finish", 0)]:
            self.assertEqual(last_of(*calls, ("cb_takes", 0)), [9])
            calls.append(later)
        self.assertEqual(last_of(*calls, ("cb_takes", 0)), [9])

    def test_an_order_that_is_not_there(self):
        self.assertEqual(last_of(("cb_takes", 0)), [-2])
        self.assertEqual(last_of(*shop_with([50], [9]), ("cb_takes", WIDEST)), [-2])


if __name__ == "__main__":
    unittest.main()
