"""Point 5: sizes turned, their lengths, the nearest and the least."""

import random
import unittest

from tests.lines import last_of, run

MORE = 100000


def near(zero, step, x):
    told = last_of(("cb_system", zero, step), ("cb_near", 0, x))
    return [told[0] - MORE, told[1] - MORE]


def turn(a, k, b):
    told = last_of(("cb_system",) + a, ("cb_system",) + b, ("cb_turn", 0, k, 1))
    return [told[0] - MORE, told[1]]


class Long(unittest.TestCase):
    def test_from_the_system_on_by_its_steps(self):
        system = ("cb_system", -300000, 20000)
        self.assertEqual(last_of(system, ("cb_long", 0, 0)), [19700000])
        self.assertEqual(last_of(system, ("cb_long", 0, 42)), [20540000])
        self.assertEqual(last_of(system, ("cb_long", 0, -1)), [19680000])

    def test_the_shortest_and_the_longest(self):
        self.assertEqual(last_of(("cb_system", -1000000, 100000), ("cb_long", 0, -100)), [9000000])
        self.assertEqual(last_of(("cb_system", 1000000, 100000), ("cb_long", 0, 200)), [41000000])

    def test_sizes_that_are_not_as_told(self):
        for k in (-101, 201, -2147483648, 2147483647):
            self.assertEqual(last_of(("cb_system", 0, 1000), ("cb_long", 0, k)), [-22])

    def test_of_the_system_that_is_named(self):
        systems = [("cb_system", 0, 1000), ("cb_system", 5, 2000)]
        self.assertEqual(run(*systems, ("cb_long", 0, 3), ("cb_long", 1, 3))[-2:], [[20003000], [20006005]])


class Near(unittest.TestCase):
    def test_the_nearest_then_the_least_as_long(self):
        self.assertEqual(near(0, 1000, 5000), [5, 5])
        self.assertEqual(near(0, 1000, 5001), [5, 6])
        self.assertEqual(near(0, 1000, 5499), [5, 6])
        self.assertEqual(near(0, 1000, 5501), [6, 6])
        self.assertEqual(near(0, 1000, 5999), [6, 6])

    def test_of_two_as_near_the_greater(self):
        self.assertEqual(near(0, 1000, 5500), [6, 6])
        self.assertEqual(near(1000000, 1000, 999500), [0, 0])
        self.assertEqual(near(1000000, 1000, 998500), [-1, -1])

    def test_steps_that_are_odd_have_no_tie(self):
        self.assertEqual(near(0, 1001, 500), [0, 1])
        self.assertEqual(near(0, 1001, 501), [1, 1])
        self.assertEqual(near(1000000, 1001, 1000000 - 500), [0, 0])
        self.assertEqual(near(1000000, 1001, 1000000 - 501), [-1, 0])

    def test_sizes_below_0(self):
        self.assertEqual(near(1000000, 1000, 0), [-1000, -1000])
        self.assertEqual(near(1000000, 1000, 1), [-1000, -999])
        self.assertEqual(near(1000000, 100000, 940000), [-1, 0])

    def test_sizes_are_answered_with_100000_more(self):
        system = ("cb_system", 1000000, 1000)
        self.assertEqual(last_of(system, ("cb_near", 0, 0)), [99000, 99000])
        self.assertEqual(last_of(("cb_system", -1000000, 1000), ("cb_near", 0, 2000000)), [103000, 103000])

    def test_lengths_that_are_not_as_told(self):
        for x in (-1, 2000001, -2147483648, 2147483647):
            self.assertEqual(last_of(("cb_system", 0, 1000), ("cb_near", 0, x)), [-22])
        self.assertEqual(near(0, 1000, 0), [0, 0])
        self.assertEqual(near(0, 1000, 2000000), [2000, 2000])

    def test_none_is_nearer_and_the_one_before_the_least_is_not_as_long(self):
        chance = random.Random(5)
        for round_number in range(500):
            zero, step = chance.randint(-1000000, 1000000), chance.randint(1000, 100000)
            x = chance.randint(0, 2000000)
            if round_number % 2:
                x = min(2000000, max(0, zero + chance.randint(-9, 9) * step + step // 2))
            nearest, least = near(zero, step, x)
            self.assertGreaterEqual(zero + least * step, x)
            self.assertLess(zero + (least - 1) * step, x)
            away = abs(zero + nearest * step - x)
            self.assertLess(away, abs(zero + (nearest + 1) * step - x))
            self.assertLessEqual(away, abs(zero + (nearest - 1) * step - x))


class Turn(unittest.TestCase):
    def test_tells_the_nearest_and_whether_it_is_just_as_long(self):
        self.assertEqual(turn((0, 20000), 42, (0, 10000)), [84, 1])
        self.assertEqual(turn((0, 20000), 42, (0, 25400)), [33, 0])
        self.assertEqual(turn((-300000, 25400), 10, (0, 20000)), [-2, 0])

    def test_of_two_as_near_the_greater(self):
        self.assertEqual(turn((0, 1000), 3, (0, 2000)), [2, 0])
        self.assertEqual(turn((0, 1000), -3, (0, 2000)), [-1, 0])

    def test_sizes_below_0_and_the_farthest(self):
        self.assertEqual(turn((-1000000, 100000), -100, (1000000, 1000)), [-12000, 1])
        self.assertEqual(turn((1000000, 100000), 200, (-1000000, 1000)), [22000, 1])
        self.assertEqual(turn((0, 1000), -100, (0, 1000)), [-100, 1])

    def test_into_itself_and_the_other_way(self):
        systems = [("cb_system", 0, 1000), ("cb_system", 7000, 3000)]
        rows = run(*systems, ("cb_turn", 0, 10, 0), ("cb_turn", 0, 10, 1), ("cb_turn", 1, 1, 0), ("cb_turn", 1, 9, 1))
        self.assertEqual(rows[-4:], [[100010, 1], [100001, 1], [100010, 1], [100009, 1]])

    def test_sizes_that_are_not_as_told(self):
        for k in (-101, 201, -2147483648, 2147483647):
            self.assertEqual(last_of(("cb_system", 0, 1000), ("cb_turn", 0, k, 0)), [-22])
        self.assertEqual(last_of(("cb_system", 0, 1000), ("cb_turn", 0, -100, 0)), [99900, 1])
        self.assertEqual(last_of(("cb_system", 0, 1000), ("cb_turn", 0, 200, 0)), [100200, 1])

    def test_turned_into_smaller_steps_and_back_is_itself(self):
        chance = random.Random(6)
        for round_number in range(300):
            zero, step = chance.randint(-1000000, 1000000), chance.randint(1001, 100000)
            a, b = (zero, step), (chance.randint(-1000000, 1000000), chance.randint(1000, step - 1))
            k = chance.randint(-100, 200)
            turned = turn(a, k, b)[0]
            if -100 <= turned <= 200:
                self.assertEqual(turn(b, turned, a)[0], k)

    def test_a_greater_size_is_turned_into_no_lesser_one(self):
        systems = [("cb_system", -7, 1234), ("cb_system", 99, 56789)]
        sizes = [row[0] for row in run(*systems, *[("cb_turn", 0, k, 1) for k in range(-100, 201)])[2:]]
        self.assertEqual(sizes, sorted(sizes))


if __name__ == "__main__":
    unittest.main()
