"""Point 1: what counts as a change, how many can be taken back, till when they can be done again."""

import unittest

from shoeworks.benches import CALLS, answer_call
from shoeworks.history import History
from tests.lines import FEET, LAST, style

CHANGES = [
    ("cb_system", 0, 1000), LAST, FEET, ("cb_hide", 100), style(10), ("cb_order", 0, 0), ("cb_order", 0, 0),
    ("cb_cut", 0, 0), ("cb_put", 0), ("cb_day", 3), ("cb_off", 0), ("cb_finish", 0), ("cb_take", 3), ("cb_take", 0),
]


def do(history, call):
    kinds = {name: kind for name, count, kind in CALLS}
    return answer_call(history, call[0], list(call[1:]), kinds[call[0]])


def seen(shop):
    """All that a shop holds, as plain values."""
    parts = [shop.day, list(shop.hides)]
    for things in (shop.systems, shop.lasts, shop.feet, shop.styles, shop.orders):
        parts.append([dict(vars(thing)) for thing in things])
    return parts


class Changes(unittest.TestCase):
    def test_each_call_that_is_not_refused_is_one(self):
        history = History()
        for done, call in enumerate(CHANGES):
            self.assertEqual(len(history.earlier), done)
            self.assertGreaterEqual(do(history, call)[0], 0, call)
        self.assertEqual(len(history.earlier), len(CHANGES))

    def test_refused_calls_and_questions_are_none(self):
        history = History()
        do(history, ("cb_system", 0, 1000))
        shop = history.shop
        for call in [
            ("cb_system", 0, 0), ("cb_last", 0, 0, 0), ("cb_feet", 0, 0, 0), ("cb_hide", 0), ("cb_style", 0, 0),
            ("cb_order", 0, 0), ("cb_cut", 0, 0), ("cb_put", 0), ("cb_day", 0), ("cb_off", 0), ("cb_finish", 0),
            ("cb_take", 1), ("cb_turn", 0, 0, 0), ("cb_long", 0, 0), ("cb_near", 0, 0), ("cb_turn", 0, 201, 0),
        ]:
            do(history, call)
            self.assertEqual(len(history.earlier), 1, call)
            self.assertIs(history.shop, shop)

    def test_are_taken_back_and_done_again_one_by_one(self):
        history = History()
        shops = [seen(history.shop)]
        for call in CHANGES:
            do(history, call)
            shops.append(seen(history.shop))
        for done in reversed(range(len(CHANGES))):
            history.take_back()
            self.assertEqual(seen(history.shop), shops[done])
        for done in range(len(CHANGES)):
            history.do_again()
            self.assertEqual(seen(history.shop), shops[done + 1])
        self.assertEqual(len(history.earlier), len(CHANGES))
        self.assertEqual(history.undone, [])

    def test_the_last_30_can_be_taken_back(self):
        history = History()
        for day in range(31):
            do(history, ("cb_day", 1))
        self.assertEqual(len(history.earlier), 30)
        for day in range(30):
            history.take_back()
        self.assertEqual(history.shop.day, 1)
        self.assertEqual(history.earlier, [])

    def test_another_change_ends_what_can_be_done_again(self):
        history = History()
        do(history, ("cb_day", 1))
        history.take_back()
        do(history, ("cb_day", 0))
        self.assertEqual(len(history.undone), 1)
        do(history, ("cb_day", 2))
        self.assertEqual(history.undone, [])

    def test_a_start_leaves_no_changes(self):
        history = History()
        do(history, ("cb_day", 1))
        do(history, ("cb_day", 1))
        history.take_back()
        self.assertEqual(do(history, ("cb_start",)), [0])
        self.assertEqual((history.earlier, history.undone, history.shop.day), ([], [], 0))


if __name__ == "__main__":
    unittest.main()
