"""Point 2: systems, lasts, feet, hides, styles."""

import unittest

from tests.lines import FEET, LAST, WIDEST, last_of, run, style

# Of each call: one in order, how many there may be, and of each number the
# least and the greatest that it may be.
KINDS = [
    (("cb_system", 0, 6667), 4, [(-1000000, 1000000), (1000, 100000)]),
    (("cb_last", 800000, 4, 3), 10, [(300000, 1200000), (0, 9), (1, 9)]),
    (("cb_feet", 700000, 710000, 4), 10, [(200000, 1100000), (200000, 1100000), (0, 9)]),
    (("cb_hide", 30000), 5, [(1, 60000)]),
    (("cb_style", 2000, 800000), 4, [(1, 20000), (300000, 1200000)]),
]


def with_number(call, at, number):
    return call[:at + 1] + (number,) + call[at + 2:]


def beyond(call, at, edges):
    least = -2147483648 if call[0] == "cb_system" and at == 0 else 0
    greatest = 2147483647 if least < 0 else WIDEST
    numbers = [edges[0] - 1, edges[1] + 1, least, greatest]
    return [n for n in numbers if least <= n <= greatest and not edges[0] <= n <= edges[1]]


class Stock(unittest.TestCase):
    def test_numbers_rise_from_0_till_there_are_as_many_as_may_be(self):
        for call, most, ranges in KINDS:
            rows = run(*([call] * (most + 2)))
            self.assertEqual(rows, [[k] for k in range(most)] + [[-28], [-28]], call)

    def test_the_kinds_are_counted_each_by_itself(self):
        calls = []
        for call, most, ranges in KINDS:
            calls.extend([call] * most)
        for call, row in zip(calls, run(*calls)):
            self.assertGreaterEqual(row[0], 0, call)

    def test_the_edges_of_each_number(self):
        for call, most, ranges in KINDS:
            for at, edges in enumerate(ranges):
                for number in edges:
                    self.assertEqual(last_of(with_number(call, at, number)), [0], (call, at, number))

    def test_beyond_the_edges(self):
        for call, most, ranges in KINDS:
            for at, edges in enumerate(ranges):
                for number in beyond(call, at, edges):
                    wrong = with_number(call, at, number)
                    self.assertEqual(run(wrong, call), [[-22], [0]], wrong)

    def test_not_as_told_comes_ahead_of_too_many(self):
        for call, most, ranges in KINDS:
            for at, edges in enumerate(ranges):
                for number in beyond(call, at, edges):
                    wrong = with_number(call, at, number)
                    self.assertEqual(last_of(*([call] * most), wrong), [-22], wrong)

    def test_all_edges_at_once(self):
        for call, most, ranges in KINDS:
            least = (call[0],) + tuple([edges[0] for edges in ranges])
            greatest = (call[0],) + tuple([edges[1] for edges in ranges])
            self.assertEqual(run(least, greatest), [[0], [1]], call)

    def test_a_hide_is_whole_and_has_all_its_area(self):
        calls = [LAST, FEET, style(7), ("cb_hide", 60), ("cb_order", 0, 0)]
        self.assertEqual(last_of(*calls, ("cb_cut", 0, 0)), [53])
        self.assertEqual(last_of(*calls, ("cb_take", 1)), [1])


if __name__ == "__main__":
    unittest.main()
