"""Point 1: all is as at first; what a change is; none of it there; sizes with 100,000 more."""

import unittest

from shoeworks.benches import answers
from tests.lines import FEET, LAST, LOOK, START, WIDEST, flat, last_of, run, shop_with, split, style

FULL = shop_with([100, 100], [10, 20]) + [
    ("cb_system", 0, 1000), ("cb_cut", 0, 0), ("cb_put", 0), ("cb_day", 3), ("cb_off", 0), ("cb_finish", 0),
]


class Start(unittest.TestCase):
    def test_answers_0(self):
        self.assertEqual(answers([0]), [1, 0])
        self.assertEqual(answers([0, 0, 0]), [1, 0, 1, 0, 1, 0])

    def test_in_the_middle_nothing_is_there(self):
        for call in [
            ("cb_order", 0, 0), ("cb_cut", 0, 0), ("cb_put", 0), ("cb_off", 0), ("cb_finish", 0),
            ("cb_turn", 0, 0, 0), ("cb_long", 0, 0), ("cb_near", 0, 0), ("cb_which", 0), ("cb_size", 0, 0),
            ("cb_fit", 0, 0), ("cb_takes", 0), ("cb_free", 0), ("cb_soon", 0), ("cb_left", 0), ("cb_from", 0),
            ("cb_stage", 0), ("cb_back",), ("cb_again",),
        ]:
            rows = run(*FULL, START, call)
            self.assertEqual(rows[-2:], [[0], [-2]], call)
        self.assertEqual(last_of(*FULL, START, ("cb_take", 1)), [-22])
        self.assertEqual(last_of(*FULL, START, ("cb_plan", 1)), [-22])
        rows = run(*FULL, START, ("cb_uncut",), ("cb_leather",), ("cb_lasts",), ("cb_state",))
        self.assertEqual(rows[-4:], [[0, 0, 0], [0, 0, 0], [0, 0], [0] * 9])

    def test_in_the_middle_day_0(self):
        self.assertEqual(last_of(("cb_day", 9000), START, ("cb_day", 1)), [1])

    def test_in_the_middle_numbers_from_0(self):
        calls = FULL + [("cb_take", 2), ("cb_turn", 0, 7, 0)]
        self.assertEqual(run(*calls, START, *calls), run(*calls) + [[0]] + run(*calls))

    def test_counts_of_finished_begin_again(self):
        self.assertEqual(last_of(*FULL), [1])
        self.assertEqual(last_of(*FULL, START, *FULL), [1])


class NoneThere(unittest.TestCase):
    def test_each_kind(self):
        for k in (2, 31, 32, 64, WIDEST):
            for call in [
                ("cb_order", k, 0), ("cb_order", 0, k), ("cb_cut", k, 0), ("cb_cut", 0, k), ("cb_put", k),
                ("cb_off", k), ("cb_finish", k), ("cb_turn", k, 0, 0), ("cb_turn", 0, 0, k),
                ("cb_long", k, 0), ("cb_near", k, 0), ("cb_which", k), ("cb_size", k, 0), ("cb_size", 0, k),
                ("cb_fit", k, 0), ("cb_fit", 0, k), ("cb_takes", k), ("cb_free", k), ("cb_soon", k), ("cb_left", k),
                ("cb_from", k), ("cb_stage", k),
            ]:
                self.assertEqual(last_of(*FULL, call), [-2], call)

    def test_the_first_number_that_is_not_there(self):
        calls = [LAST, FEET, style(10), ("cb_hide", 100), ("cb_order", 0, 0), ("cb_system", 0, 1000)]
        for call in [
            ("cb_order", 1, 0), ("cb_order", 0, 1), ("cb_cut", 1, 0), ("cb_cut", 0, 1), ("cb_put", 1),
            ("cb_off", 1), ("cb_finish", 1), ("cb_turn", 1, 0, 0), ("cb_turn", 0, 0, 1),
            ("cb_long", 1, 0), ("cb_near", 1, 0), ("cb_which", 1), ("cb_size", 1, 0), ("cb_size", 0, 1),
            ("cb_fit", 1, 0), ("cb_fit", 0, 1), ("cb_takes", 1), ("cb_free", 1), ("cb_soon", 1), ("cb_left", 1),
            ("cb_from", 1), ("cb_stage", 1),
        ]:
            self.assertEqual(last_of(*calls, call), [-2], call)

    def test_is_looked_at_first(self):
        # Each of these would have another refusal due too.
        self.assertEqual(last_of(("cb_feet", 200000, 200000, 0), ("cb_order", 0, 0)), [-2])
        self.assertEqual(last_of(style(10), ("cb_order", 0, 0)), [-2])
        self.assertEqual(last_of(*FULL, ("cb_cut", 0, 2)), [-2])
        self.assertEqual(last_of(("cb_system", 0, 1000), ("cb_turn", 1, 201, 0)), [-2])
        self.assertEqual(last_of(("cb_system", 0, 1000), ("cb_turn", 0, -101, 1)), [-2])
        self.assertEqual(last_of(("cb_long", 0, 201)), [-2])
        self.assertEqual(last_of(("cb_near", 0, -1)), [-2])


# Each call of a long line is answered, and between any two of them a refused
# call may come without another answer being other than before.
LONG = [
    ("cb_system", -1000000, 1000), ("cb_system", 5, 2000), LAST, ("cb_last", 400000, 9, 1), FEET,
    ("cb_feet", 300000, 310000, 7), ("cb_hide", 100), ("cb_hide", 90), style(40), ("cb_style", 10, 400000),
    ("cb_order", 0, 0), ("cb_order", 1, 1), ("cb_order", 0, 0), ("cb_order", 1, 0), ("cb_order", 1, 1),
    ("cb_day", 5), ("cb_cut", 0, 1), ("cb_put", 0), ("cb_cut", 1, 0), ("cb_put", 1), ("cb_day", 3),
    ("cb_off", 0), ("cb_off", 1), ("cb_finish", 0), ("cb_take", 20), ("cb_put", 4), ("cb_finish", 1),
    ("cb_day", 3), ("cb_off", 4), ("cb_finish", 4), ("cb_take", 31 - 8), ("cb_turn", 0, 7, 1), ("cb_long", 1, 3),
    ("cb_near", 1, 3), ("cb_back",), ("cb_back",), ("cb_back",), ("cb_again",), ("cb_plan", 0),
] + [call for call in LOOK if call[0] in ("cb_state", "cb_uncut", "cb_leather", "cb_lasts")] + [
    (name, k) for name in ("cb_stage", "cb_takes") for k in range(5)
] + [(name, k) for name in ("cb_left", "cb_free", "cb_which") for k in range(2)]
REFUSED_ANYWHERE = [
    ("cb_system", 1000001, 1000), ("cb_system", 0, 0), ("cb_last", 299999, 0, 1), ("cb_last", 300000, 10, 1),
    ("cb_last", 300000, 0, 0), ("cb_feet", 0, 200000, 0), ("cb_feet", 200000, 0, 0), ("cb_feet", 200000, 200000, 10),
    ("cb_hide", 0), ("cb_hide", 60001), ("cb_style", 0, 300000), ("cb_style", 1, 0), ("cb_order", 0, 9),
    ("cb_order", 9, 0), ("cb_cut", 0, 9), ("cb_cut", 9, 0), ("cb_put", 9), ("cb_put", 3), ("cb_off", 9),
    ("cb_off", 3), ("cb_finish", 9), ("cb_finish", 3), ("cb_finish", 2), ("cb_day", 0), ("cb_day", 10000),
    ("cb_day", WIDEST), ("cb_take", 32), ("cb_take", WIDEST), ("cb_turn", 0, 201, 1), ("cb_turn", 0, 0, 2),
    ("cb_long", 0, -101), ("cb_near", 0, 2000001), ("cb_cut", 3, 0), ("cb_which", 9), ("cb_size", 9, 0),
    ("cb_size", 0, 9), ("cb_fit", 9, 0), ("cb_fit", 0, 9), ("cb_takes", 9), ("cb_plan", 1023), ("cb_free", 9),
    ("cb_soon", 9), ("cb_soon", 3), ("cb_left", 9), ("cb_from", 9), ("cb_from", 3), ("cb_stage", 9), ("cb_again",),
]


class Refusals(unittest.TestCase):
    def test_the_long_line_is_not_refused(self):
        for call, row in zip(LONG, run(*LONG)):
            self.assertGreaterEqual(row[0], 0, call)

    def test_leave_all_as_it_was(self):
        plain = run(*LONG)
        for call in REFUSED_ANYWHERE:
            refused = 0
            for at in range(len(LONG) + 1):
                rows = run(*LONG[:at], call, *LONG[at:])
                # A call may be in order at one place of the line and not at another.
                if rows[at][0] >= 0:
                    continue
                self.assertEqual(len(rows[at]), 1, call)
                self.assertEqual(rows[:at] + rows[at + 1:], plain, (at, call))
                refused += 1
            self.assertGreater(refused, 10, call)


class Line(unittest.TestCase):
    def test_answers_stand_behind_their_counts(self):
        calls = flat([START, ("cb_system", 0, 1000), LAST, FEET, style(10), ("cb_order", 0, 0), ("cb_put", 0)])
        self.assertEqual(answers(calls), [1, 0, 1, 0, 1, 0, 1, 0, 1, 0, 2, 0, 0, 1, -16])

    def test_every_call_by_its_number(self):
        calls = [
            0, 1, 0, 1000, 2, 300000, 0, 1, 3, 200000, 200000, 0, 4, 100, 5, 10, 300000, 6, 0, 0, 7, 0, 0,
            8, 0, 9, 3, 10, 0, 11, 0, 12, 1, 13, 0, 5, 0, 14, 0, 5, 15, 0, 1001, 6, 0, 0, 16, 0, 17, 0, 0, 18, 0, 0,
            19, 0, 20, 3, 21, 0, 7, 1, 0, 22, 1, 23, 0, 24, 0, 25, 0, 26, 27, 28, 29, 30, 31,
        ]
        told = [
            [0], [0], [0], [0], [0], [0], [0, 0], [90], [3], [3], [0], [1], [0], [100005, 1], [20005000],
            [100001, 100002], [1, 0], [0, 1], [100300], [1], [10], [0, 1, 0, 0, 0, 0], [1, 1, 3], [80], [6], [80, 100],
            [0], [4, 0, 0, 0], [0, 0, 0], [80, 100, 20], [1, 0], [13], [0], [3, 1, 1, 1, 1, 1, 2, 14, 0],
        ]
        self.assertEqual(split(answers(calls)), told)

    def test_the_list_handed_in_stays_as_it_was(self):
        calls = flat([START] + LONG + REFUSED_ANYWHERE)
        before = list(calls)
        answers(calls)
        self.assertEqual(calls, before)

    def test_two_runs_answer_the_same(self):
        calls = flat([START] + LONG + REFUSED_ANYWHERE + [START] + LONG)
        self.assertEqual(answers(calls), answers(calls))

    def test_another_line_in_between_changes_nothing(self):
        calls = flat([START] + LONG)
        before = answers(calls)
        answers(flat([START] + FULL))
        self.assertEqual(answers(calls), before)

    def test_the_answers_are_a_new_list_of_whole_numbers(self):
        told = answers(flat([START] + LONG))
        self.assertEqual({type(number) for number in told}, {int})
        self.assertIs(type(told), list)

    def test_a_thousand_calls(self):
        rows = run(*([("cb_day", 1)] * 999))
        self.assertEqual(rows, [[day] for day in range(1, 1000)])

    def test_a_thousand_plans(self):
        calls = shop_with([50] * 5, [10] * 4)
        rows = run(*calls, *[("cb_plan", 15)] * (999 - len(calls)))
        self.assertEqual(rows[len(calls):], [[1, 4, 0, 0, 0, 0]] * (999 - len(calls)))


if __name__ == "__main__":
    unittest.main()
