"""Points 8 and 9: what is left of hides, where orders came from, and what all of it comes to."""

import unittest

from tests.lines import FEET, LAST, WIDEST, last_of, run, shop_with, style

STAGES = [("cb_cut", 0, 1), ("cb_put", 0), ("cb_day", 3), ("cb_off", 0), ("cb_finish", 0)]


def at_each_stage(calls, *asked):
    """What is answered ahead of and behind each step of order 0, which is cut out of hide 1."""
    told = [run(*calls, *asked)[-len(asked):]]
    for n in range(len(STAGES)):
        told.append(run(*calls, *STAGES[:n + 1], *asked)[-len(asked):])
    return told


class Left(unittest.TestCase):
    def test_all_it_had_as_long_as_it_is_whole(self):
        calls = shop_with([50, 60000], [7, 8])
        self.assertEqual(run(*calls, ("cb_left", 0), ("cb_left", 1))[-2:], [[50, 50], [60000, 60000]])

    def test_less_what_was_cut(self):
        calls = shop_with([50, 15], [7, 8]) + [("cb_cut", 1, 0), ("cb_cut", 0, 0)]
        self.assertEqual(run(*calls, ("cb_left", 0), ("cb_left", 1))[-2:], [[35, 50], [15, 15]])
        calls = shop_with([15], [7, 8]) + [("cb_take", 3)]
        self.assertEqual(last_of(*calls, ("cb_left", 0)), [0, 15])

    def test_cut_leather_does_not_come_back(self):
        told = at_each_stage(shop_with([50, 9], [7]), ("cb_left", 1), ("cb_left", 0))
        self.assertEqual(told, [[[9, 9], [50, 50]]] + [[[2, 9], [50, 50]]] * 5)

    def test_a_refused_cut_takes_nothing(self):
        self.assertEqual(last_of(*shop_with([6], [7]), ("cb_cut", 0, 0), ("cb_left", 0)), [6, 6])

    def test_a_hide_that_is_not_there(self):
        self.assertEqual(last_of(("cb_left", 0)), [-2])
        for h in (1, 5, WIDEST):
            self.assertEqual(last_of(("cb_hide", 6), ("cb_left", h)), [-2])


class From(unittest.TestCase):
    def test_at_each_stage(self):
        told = at_each_stage(shop_with([50, 9], [7]), ("cb_from", 0))
        self.assertEqual(told, [[[-6]]] + [[[1]]] * 5)

    def test_each_out_of_its_own(self):
        calls = shop_with([9, 9, 9], [5, 5, 5, 5]) + [("cb_cut", 2, 0), ("cb_cut", 0, 2)]
        rows = run(*calls, *[("cb_from", k) for k in range(4)])
        self.assertEqual(rows[-4:], [[2], [-6], [0], [-6]])

    def test_by_a_plan(self):
        calls = shop_with([5, 6, 7], [7, 5, 6]) + [("cb_take", 7)]
        self.assertEqual(run(*calls, *[("cb_from", k) for k in range(3)])[-3:], [[2], [0], [1]])

    def test_an_order_that_is_not_there(self):
        self.assertEqual(last_of(("cb_from", 0)), [-2])
        for k in (1, 10, WIDEST):
            self.assertEqual(last_of(*shop_with([50], [7]), ("cb_from", k)), [-2])


class Stage(unittest.TestCase):
    def test_each(self):
        told = at_each_stage(shop_with([50, 9], [7]), ("cb_stage", 0))
        self.assertEqual([row[0] for row in told], [[stage, 0, 0, 0] for stage in (0, 1, 2, 2, 3, 4)])

    def test_its_feet_its_style_its_last(self):
        calls = [("cb_last", 400000, 5, 1), LAST, ("cb_last", 300000, 2, 1), FEET, FEET, ("cb_feet", 200000, 200000, 1)]
        calls.extend([style(1), style(2), style(3), style(4)])
        calls.extend([("cb_order", 2, 3), ("cb_order", 1, 0), ("cb_order", 0, 2)])
        rows = run(*calls, *[("cb_stage", k) for k in range(3)])
        self.assertEqual(rows[-3:], [[0, 2, 3, 2], [0, 1, 0, 1], [0, 0, 2, 1]])

    def test_its_last_is_the_one_it_was_told_with(self):
        calls = [("cb_last", 400000, 5, 1), FEET, style(1), ("cb_order", 0, 0), LAST, ("cb_order", 0, 0)]
        self.assertEqual(run(*calls, ("cb_stage", 0), ("cb_stage", 1))[-2:], [[0, 0, 0, 0], [0, 0, 0, 1]])

    def test_each_order_by_itself(self):
        calls = shop_with([50, 50], [1, 1, 1, 1, 1]) + [("cb_take", 15), ("cb_put", 1), ("cb_put", 2), ("cb_put", 3)]
        calls.extend([("cb_day", 3), ("cb_off", 2), ("cb_off", 3), ("cb_finish", 3)])
        rows = run(*calls, *[("cb_stage", k) for k in range(5)])
        self.assertEqual([row[0] for row in rows[-5:]], [1, 2, 3, 4, 0])

    def test_an_order_that_is_not_there(self):
        self.assertEqual(last_of(("cb_stage", 0)), [-2])
        for k in (1, 10, WIDEST):
            self.assertEqual(last_of(*shop_with([50], [7]), ("cb_stage", k)), [-2])


# Orders at every stage: 0 and 5 are told, 1 is cut, 2 is on its last, 3 is
# off it, 4 is finished.
MIXED = shop_with([100, 100, 7], [11, 12, 13, 12, 12, 14]) + [
    ("cb_last", 500000, 9, 4), ("cb_cut", 1, 0), ("cb_cut", 2, 1), ("cb_cut", 3, 1), ("cb_cut", 4, 0), ("cb_put", 2),
    ("cb_put", 3), ("cb_put", 4), ("cb_day", 3), ("cb_off", 3), ("cb_off", 4), ("cb_finish", 4),
]


class Uncut(unittest.TestCase):
    def test_nothing_there(self):
        self.assertEqual(last_of(("cb_uncut",)), [0, 0, 0])
        self.assertEqual(last_of(("cb_hide", 9), LAST, FEET, style(5), ("cb_uncut",)), [0, 0, 0])

    def test_orders_at_every_stage(self):
        self.assertEqual(last_of(*MIXED, ("cb_uncut",)), [2, 0b100001, 25])

    def test_one_order_at_each_stage(self):
        told = at_each_stage(shop_with([50, 9], [7]), ("cb_uncut",))
        self.assertEqual(told, [[[1, 1, 7]]] + [[[0, 0, 0]]] * 5)

    def test_none_and_all_of_ten(self):
        calls = shop_with([50], [3] * 10)
        self.assertEqual(last_of(*calls, ("cb_uncut",)), [10, 1023, 30])
        calls.extend([("cb_cut", k, 0) for k in range(9)])
        self.assertEqual(last_of(*calls, ("cb_uncut",)), [1, 512, 3])
        self.assertEqual(last_of(*calls, ("cb_cut", 9, 0), ("cb_uncut",)), [0, 0, 0])

    def test_each_is_rounded_up_by_itself(self):
        calls = [("cb_last", 300000, 5, 1), FEET, ("cb_style", 1, 1200000)] + [("cb_order", 0, 0)] * 3
        self.assertEqual(last_of(*calls, ("cb_uncut",)), [3, 7, 3])

    def test_the_most_they_can_take(self):
        calls = [("cb_last", 1200000, 5, 1), FEET, ("cb_style", 20000, 300000)] + [("cb_order", 0, 0)] * 10
        self.assertEqual(last_of(*calls, ("cb_uncut",)), [10, 1023, 3200000])


class Leather(unittest.TestCase):
    def test_nothing_there(self):
        self.assertEqual(last_of(("cb_leather",)), [0, 0, 0])

    def test_nothing_cut(self):
        self.assertEqual(last_of(*shop_with([9, 50], [7, 8]), ("cb_leather",)), [59, 59, 0])
        self.assertEqual(last_of(*[("cb_hide", 60000)] * 5, ("cb_leather",)), [300000, 300000, 0])

    def test_orders_at_every_stage(self):
        self.assertEqual(last_of(*MIXED, ("cb_leather",)), [158, 207, 49])

    def test_one_order_at_each_stage(self):
        told = at_each_stage(shop_with([50, 9], [7]), ("cb_leather",))
        self.assertEqual(told, [[[59, 59, 0]]] + [[[52, 59, 7]]] * 5)

    def test_all_cut(self):
        self.assertEqual(last_of(*shop_with([7, 8], [7, 8]), ("cb_take", 3), ("cb_leather",)), [0, 15, 15])

    def test_all_leather_is_left_or_was_cut(self):
        calls = MIXED + [("cb_take", 33)]
        for n in range(len(calls) + 1):
            rows = run(*calls[:n], ("cb_leather",), *[("cb_left", h) for h in range(3)])
            told = rows[n]
            self.assertEqual(told[1], told[0] + told[2])
            hides = [row for row in rows[n + 1:] if row != [-2]]
            self.assertEqual(told[:2], [sum([row[0] for row in hides]), sum([row[1] for row in hides])])


class Lasts(unittest.TestCase):
    def test_nothing_there(self):
        self.assertEqual(last_of(("cb_lasts",)), [0, 0])

    def test_all_pairs_of_all_lasts(self):
        self.assertEqual(last_of(LAST, ("cb_last", 400000, 5, 2), ("cb_last", 300000, 5, 1), ("cb_lasts",)), [12, 0])
        self.assertEqual(last_of(*[LAST] * 10, ("cb_lasts",)), [90, 0])

    def test_orders_at_every_stage(self):
        self.assertEqual(last_of(*MIXED, ("cb_lasts",)), [13, 1])

    def test_one_order_at_each_stage(self):
        told = at_each_stage(shop_with([50, 9], [7]), ("cb_lasts",))
        self.assertEqual(told, [[[9, on]] for on in (0, 0, 1, 1, 0, 0)])

    def test_orders_on_several_lasts(self):
        calls = [("cb_last", 300000, 5, 1), ("cb_last", 400000, 5, 2), FEET, ("cb_feet", 300000, 300000, 5), style(1)]
        calls.extend([("cb_hide", 50), ("cb_order", 0, 0), ("cb_order", 1, 0), ("cb_order", 1, 0), ("cb_take", 7)])
        calls.extend([("cb_put", k) for k in range(3)])
        self.assertEqual(last_of(*calls, ("cb_lasts",)), [3, 3])

    def test_no_more_on_lasts_than_there_are(self):
        calls = [("cb_last", 300000, 5, 2), FEET, style(1), ("cb_hide", 50)] + [("cb_order", 0, 0)] * 4
        calls.extend([("cb_take", 15)] + [("cb_put", k) for k in range(4)])
        self.assertEqual(run(*calls, ("cb_lasts",))[-5:], [[3], [3], [-12], [-12], [2, 2]])


if __name__ == "__main__":
    unittest.main()
