"""Point 10: changes taken back and done again, and the state; and what point 1 says of them."""

import unittest

from tests.lines import FEET, LAST, START, last_of, look, run, shop_with, state, style

BACK = ("cb_back",)
AGAIN = ("cb_again",)
STATE = ("cb_state",)
DAY = ("cb_day", 1)

# A change of each kind, each in order behind those before it.
CHANGES = [
    ("cb_system", -5, 1000), LAST, FEET, ("cb_hide", 100), ("cb_hide", 20), style(10), ("cb_order", 0, 0),
    ("cb_order", 0, 0), ("cb_order", 0, 0), ("cb_cut", 0, 0), ("cb_put", 0), ("cb_day", 3), ("cb_off", 0),
    ("cb_finish", 0), ("cb_take", 6), ("cb_take", 0), ("cb_take", 7), ("cb_put", 1),
]
REFUSED = [
    ("cb_system", 0, 0), ("cb_last", 0, 0, 0), ("cb_feet", 0, 0, 0), ("cb_hide", 0), ("cb_style", 0, 0),
    ("cb_order", 9, 0), ("cb_cut", 9, 0), ("cb_put", 9), ("cb_day", 0), ("cb_off", 9), ("cb_finish", 9),
    ("cb_take", 1024),
]
QUESTIONS = [
    ("cb_turn", 0, 5, 0), ("cb_long", 0, 5), ("cb_near", 0, 5), ("cb_which", 0), ("cb_size", 0, 0), ("cb_fit", 0, 0),
    ("cb_takes", 0), ("cb_plan", 6), ("cb_free", 0), ("cb_soon", 1), ("cb_left", 0), ("cb_from", 0), ("cb_stage", 0),
    ("cb_uncut",), ("cb_leather",), ("cb_lasts",), STATE,
]


def but_changes(seen):
    """What is seen of a shop, without how many changes can be taken back and done again."""
    return [seen[0][:7]] + seen[1:]


class State(unittest.TestCase):
    def test_at_first(self):
        self.assertEqual(last_of(STATE), [0] * 9)

    def test_counts_each_kind_in_its_place(self):
        calls = [("cb_day", 40), ("cb_system", 0, 1000)] + [LAST] * 2 + [FEET] * 3 + [("cb_hide", 9)] * 4
        calls.extend([style(1)] * 3 + [("cb_order", 0, 0)] * 5)
        self.assertEqual(state(*calls), [40, 1, 2, 3, 4, 3, 5, 19, 0])
        self.assertEqual(state(*calls, BACK), [40, 1, 2, 3, 4, 3, 4, 18, 1])

    def test_all_that_there_may_be(self):
        calls = [("cb_system", 0, 1000)] * 4 + [LAST] * 10 + [FEET] * 10 + [("cb_hide", 9)] * 5 + [style(1)] * 4
        calls.extend([("cb_order", 0, 0)] * 10 + [("cb_day", 10000)])
        self.assertEqual(state(*calls), [10000, 4, 10, 10, 5, 4, 10, 30, 0])

    def test_behind_each_change_one_more(self):
        for n in range(len(CHANGES) + 1):
            self.assertEqual(state(*CHANGES[:n])[7:], [n, 0], CHANGES[n - 1:n])

    def test_refused_calls_and_questions_are_no_changes(self):
        for call in REFUSED + QUESTIONS:
            told = run(*CHANGES, STATE, call, STATE)
            self.assertEqual(told[-2][0] < 0, call in REFUSED, call)
            self.assertEqual(told[-1], told[-3], call)


class Back(unittest.TestCase):
    def test_none_to_take_back(self):
        self.assertEqual(run(BACK, STATE), [[-2], [0] * 9])
        self.assertEqual(run(DAY, BACK, BACK, BACK, STATE), [[1], [0], [-2], [-2], [0, 0, 0, 0, 0, 0, 0, 0, 1]])
        self.assertEqual(last_of(("cb_day", 0), BACK), [-2])

    def test_tells_how_many_can_still_be(self):
        rows = run(DAY, DAY, LAST, BACK, STATE, BACK, STATE, BACK, STATE)[3:]
        self.assertEqual(rows, [
            [2], [2, 0, 0, 0, 0, 0, 0, 2, 1], [1], [1, 0, 0, 0, 0, 0, 0, 1, 2], [0], [0, 0, 0, 0, 0, 0, 0, 0, 3],
        ])

    def test_a_change_of_each_kind_taken_back_and_done_again(self):
        for n in range(len(CHANGES)):
            before, behind = look(*CHANGES[:n]), look(*CHANGES[:n + 1])
            back = look(*CHANGES[:n + 1], BACK)
            self.assertEqual(but_changes(back), but_changes(before), CHANGES[n])
            self.assertEqual(back[0][7:], [n, 1])
            self.assertEqual(look(*CHANGES[:n + 1], BACK, AGAIN), behind, CHANGES[n])

    def test_all_taken_back_and_done_again_one_by_one(self):
        seen = [but_changes(look(*CHANGES[:n])) for n in range(len(CHANGES) + 1)]
        calls = list(CHANGES)
        for n in reversed(range(len(CHANGES))):
            calls.append(BACK)
            self.assertEqual(last_of(*calls), [n])
            self.assertEqual(but_changes(look(*calls)), seen[n])
        for n in range(len(CHANGES)):
            calls.append(AGAIN)
            self.assertEqual(last_of(*calls), [len(CHANGES) - 1 - n])
            self.assertEqual(but_changes(look(*calls)), seen[n + 1])
        self.assertEqual(state(*calls)[7:], [len(CHANGES), 0])

    def test_30_and_31_changes(self):
        for changes, day in ((29, 0), (30, 0), (31, 1), (99, 69)):
            backs = min(changes, 30)
            rows = run(*[DAY] * changes, STATE, *[BACK] * backs, STATE, BACK, STATE)[changes:]
            self.assertEqual(rows[0], [changes, 0, 0, 0, 0, 0, 0, backs, 0])
            self.assertEqual(rows[1:-3], [[n] for n in reversed(range(backs))])
            self.assertEqual(rows[-3:], [[day, 0, 0, 0, 0, 0, 0, 0, backs], [-2], [day, 0, 0, 0, 0, 0, 0, 0, backs]])

    def test_a_hide_is_whole_again(self):
        calls = shop_with([10, 10], [5, 5]) + [("cb_cut", 0, 1)]
        self.assertEqual(last_of(*calls, ("cb_plan", 2)), [0, 1, 1, 0, 0, 0])
        self.assertEqual(last_of(*calls, BACK, ("cb_plan", 2)), [1, 1, 0, 0, 0, 0])
        self.assertEqual(last_of(*calls, BACK, AGAIN, ("cb_plan", 2)), [0, 1, 1, 0, 0, 0])
        self.assertEqual(last_of(*calls, BACK, ("cb_take", 3)), [1])

    def test_what_was_taken_back_is_not_there(self):
        self.assertEqual(last_of(("cb_system", 0, 1000), BACK, ("cb_long", 0, 0)), [-2])
        self.assertEqual(last_of(LAST, FEET, style(1), ("cb_order", 0, 0), BACK, ("cb_stage", 0)), [-2])
        self.assertEqual(last_of(LAST, FEET, style(1), ("cb_order", 0, 0), BACK, ("cb_plan", 1)), [-22])

    def test_room_comes_back_too(self):
        self.assertEqual(run(*[("cb_hide", 9)] * 6, BACK, ("cb_hide", 8))[-3:], [[-28], [4], [4]])

    def test_an_order_taken_back_may_be_told_otherwise(self):
        calls = [LAST, ("cb_last", 400000, 9, 1), FEET, ("cb_feet", 300000, 300000, 9), style(1), style(2)]
        rows = run(*calls, ("cb_order", 0, 0), BACK, ("cb_order", 1, 1), ("cb_stage", 0), BACK, AGAIN, ("cb_stage", 0))
        self.assertEqual(rows[6:], [[0, 0], [6], [0, 1], [0, 1, 1, 1], [6], [0], [0, 1, 1, 1]])

    def test_taking_back_and_doing_again_are_no_changes(self):
        rows = run(DAY, DAY, BACK, BACK, BACK, AGAIN, BACK, AGAIN, AGAIN, AGAIN, STATE)[2:]
        self.assertEqual(rows, [[1], [0], [-2], [1], [0], [1], [0], [-2], [2, 0, 0, 0, 0, 0, 0, 2, 0]])


class Again(unittest.TestCase):
    def test_none_to_be_done_again(self):
        self.assertEqual(run(AGAIN, STATE), [[-2], [0] * 9])
        self.assertEqual(run(DAY, AGAIN, STATE)[1:], [[-2], [1, 0, 0, 0, 0, 0, 0, 1, 0]])

    def test_the_one_that_was_taken_back_last(self):
        rows = run(DAY, ("cb_day", 10), ("cb_day", 100), BACK, BACK, AGAIN, STATE, AGAIN, STATE, AGAIN)[5:]
        told = [[1], [11, 0, 0, 0, 0, 0, 0, 2, 1], [0], [111, 0, 0, 0, 0, 0, 0, 3, 0], [-2]]
        self.assertEqual(rows, told)

    def test_all_30_of_31(self):
        calls = [DAY] * 31 + [BACK] * 30
        rows = run(*calls, *[AGAIN] * 30, STATE, AGAIN)[len(calls):]
        self.assertEqual(rows[:30], [[n] for n in reversed(range(30))])
        self.assertEqual(rows[30:], [[31, 0, 0, 0, 0, 0, 0, 30, 0], [-2]])
        self.assertEqual(run(*calls, *[AGAIN] * 30, *[BACK] * 31)[-2:], [[0], [-2]])

    def test_some(self):
        calls = [DAY] * 5 + [BACK] * 4 + [AGAIN] * 2
        self.assertEqual(state(*calls), [3, 0, 0, 0, 0, 0, 0, 3, 2])
        self.assertEqual(run(*calls, BACK, BACK, AGAIN, STATE)[-4:], [[2], [1], [3], [2, 0, 0, 0, 0, 0, 0, 2, 3]])

    def test_none_behind_another_change(self):
        for change in [call for call in CHANGES if call[0] in ("cb_system", "cb_last", "cb_feet", "cb_hide", "cb_day")]:
            rows = run(DAY, DAY, DAY, BACK, BACK, change, STATE, AGAIN, STATE)
            self.assertEqual(rows[-3][7:], [2, 0], change)
            self.assertEqual(rows[-2:], [[-2], rows[-3]], change)

    def test_none_behind_another_change_of_each_kind(self):
        for n in range(len(CHANGES)):
            rows = run(*CHANGES[:n], DAY, BACK, CHANGES[n], STATE, AGAIN, STATE)
            self.assertEqual(rows[-3][7:], [n + 1, 0], CHANGES[n])
            self.assertEqual(rows[-2:], [[-2], rows[-3]], CHANGES[n])

    def test_another_change_comes_behind_those_that_are_left(self):
        rows = run(*[DAY] * 30, *[BACK] * 5, ("cb_day", 100), STATE, *[BACK] * 27)[35:]
        self.assertEqual(rows[:2], [[125], [125, 0, 0, 0, 0, 0, 0, 26, 0]])
        self.assertEqual(rows[2:], [[n] for n in reversed(range(26))] + [[-2]])

    def test_the_last_30_change_by_change(self):
        calls = [DAY] * 35 + [BACK] * 3 + [DAY] * 2
        self.assertEqual(state(*calls), [34, 0, 0, 0, 0, 0, 0, 29, 0])
        self.assertEqual(state(*calls, DAY, DAY), [36, 0, 0, 0, 0, 0, 0, 30, 0])
        self.assertEqual(state(*calls, DAY, DAY, *[BACK] * 30), [6, 0, 0, 0, 0, 0, 0, 0, 30])

    def test_still_behind_refused_calls_and_questions(self):
        for call in REFUSED + QUESTIONS:
            rows = run(*CHANGES, BACK, BACK, STATE, call, STATE, AGAIN)
            self.assertEqual(rows[-2], rows[-4], call)
            self.assertEqual(rows[-1], [1], call)
            self.assertEqual(look(*CHANGES, BACK, BACK, call, AGAIN, AGAIN), look(*CHANGES), call)

    def test_still_behind_a_take_back_that_is_refused(self):
        self.assertEqual(run(DAY, BACK, BACK, STATE, AGAIN)[-3:], [[-2], [0, 0, 0, 0, 0, 0, 0, 0, 1], [0]])

    def test_a_take_of_no_orders_is_a_change(self):
        take = ("cb_take", 0)
        self.assertEqual(run(take, STATE, BACK, STATE, AGAIN, STATE), [
            [0], [0, 0, 0, 0, 0, 0, 0, 1, 0], [0], [0, 0, 0, 0, 0, 0, 0, 0, 1], [0], [0, 0, 0, 0, 0, 0, 0, 1, 0],
        ])
        self.assertEqual(run(DAY, DAY, BACK, take, AGAIN, STATE)[-3:], [[0], [-2], [1, 0, 0, 0, 0, 0, 0, 2, 0]])

    def test_a_take_of_orders_that_are_cut_is_a_change(self):
        calls = shop_with([9], [5]) + [("cb_take", 1)]
        self.assertEqual(state(*calls, ("cb_take", 1))[7], state(*calls)[7] + 1)


class StartInTheMiddle(unittest.TestCase):
    def test_all_is_as_at_first(self):
        for calls in ([], CHANGES, CHANGES + [BACK], CHANGES + [BACK] * 9, [DAY] * 40):
            self.assertEqual(look(*calls, START), look())
            self.assertEqual(run(*calls, START, BACK, AGAIN, STATE)[-3:], [[-2], [-2], [0] * 9])
            self.assertEqual(last_of(*calls, BACK, START, AGAIN), [-2])

    def test_the_line_goes_on_as_a_new_one(self):
        new = CHANGES + [BACK] * 5 + [AGAIN] * 2 + [STATE]
        self.assertEqual(run(*new, START, *new), run(*new) + [[0]] + run(*new))


if __name__ == "__main__":
    unittest.main()
