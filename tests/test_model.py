"""All points at once: lines of calls by chance are answered as the document's words are answered in model.py."""

import random
import unittest

from tests.lines import NAMES, WIDEST, run
from tests.model import NAMED, Line

KINDS = ("cb_system", "cb_last", "cb_feet", "cb_hide", "cb_style", "cb_order")

# How often a call comes, where not once as often as the others.
OFTEN = {
    "cb_order": 6, "cb_cut": 4, "cb_put": 6, "cb_day": 4, "cb_off": 6, "cb_finish": 3, "cb_take": 5, "cb_plan": 5,
    "cb_free": 2, "cb_soon": 3, "cb_back": 2, "cb_again": 2, "cb_state": 3, "cb_last": 2, "cb_feet": 3, "cb_hide": 2,
    "cb_start": 0,
}
# The stage that an order is at ahead of a call that brings it on.
STAGE_AHEAD = {"cb_cut": 0, "cb_put": 1, "cb_off": 2, "cb_finish": 3}
# Each refusal that the document tells of a call.
REFUSALS = {
    "cb_system": (-22, -28), "cb_last": (-22, -28), "cb_feet": (-22, -28), "cb_hide": (-22, -28),
    "cb_style": (-22, -28), "cb_order": (-2, -33, -28), "cb_cut": (-2, -17, -12), "cb_put": (-2, -16, -12),
    "cb_day": (-22,), "cb_off": (-2, -16, -13), "cb_finish": (-2, -16), "cb_take": (-22, -28, -33),
    "cb_turn": (-2, -22), "cb_long": (-2, -22), "cb_near": (-2, -22), "cb_which": (-2, -33), "cb_size": (-2, -33),
    "cb_fit": (-2,), "cb_takes": (-2,), "cb_plan": (-22, -28, -33), "cb_free": (-2,), "cb_soon": (-2, -16),
    "cb_left": (-2,), "cb_from": (-2, -6), "cb_stage": (-2,), "cb_back": (-2,), "cb_again": (-2,),
}


class Chance:
    def __init__(self, seed):
        self.random = random.Random(seed)
        self.lengths = [self.random.randint(300000, 1200000) for kind in range(3)]

    def one_of(self, *numbers):
        return self.random.choice(numbers)

    def among(self, low, high):
        """Mostly within the edges, at times at one of them or just beyond."""
        if self.random.random() < 0.9:
            return self.random.randint(low, high)
        return self.one_of(low, high, high + 1, low - 1 if low else low)

    def number(self, kind):
        """Mostly of one that is there."""
        there = self.there[KINDS.index(kind)]
        if there == 0 or self.random.random() < 0.04:
            return self.one_of(there, there + 1, WIDEST)
        return self.random.randrange(there)

    def last_length(self):
        length = self.one_of(*self.lengths) + self.one_of(-1, 0, 0, 0, 1)
        return length if self.random.random() < 0.9 else self.among(300000, 1200000)

    def foot(self):
        return self.one_of(200000, 200000, self.last_length() - 36000, self.among(200000, 1100000))

    def bits(self):
        orders = self.there[KINDS.index("cb_order")]
        if self.random.random() < 0.05:
            return self.one_of(1 << orders, 1 << 31, WIDEST)
        return self.random.randrange(1 << orders) & self.one_of(1023, self.random.randrange(1024))

    def numbers(self, name):
        if name == "cb_system":
            return [self.among(-1000000, 1000000), self.among(1000, 100000)]
        if name == "cb_last":
            return [self.last_length(), self.among(0, 9), self.one_of(1, 1, 2, 3, 9, self.among(1, 9))]
        if name == "cb_feet":
            return [self.foot(), self.foot(), self.one_of(0, 1, self.among(0, 9))]
        if name == "cb_hide":
            return [self.one_of(10, 20, 40, 80, 200, self.among(1, 60000))]
        if name == "cb_style":
            return [self.one_of(5, 10, 15, self.among(1, 40), self.among(1, 20000)), self.last_length()]
        if name == "cb_day":
            return [self.one_of(1, 1, 2, 3, 4, 0 if self.random.random() < 0.2 else 1, self.among(1, 5000))]
        if name in ("cb_take", "cb_plan"):
            return [self.bits()]
        if name == "cb_turn":
            return [self.number("cb_system"), self.among(-100, 200), self.number("cb_system")]
        if name == "cb_long":
            return [self.number("cb_system"), self.among(-100, 200)]
        if name == "cb_near":
            return [self.number("cb_system"), self.one_of(-1, self.among(0, 2000000), self.among(0, 2000000))]
        return self.those_named(name)

    def those_named(self, name):
        numbers = [self.number("cb_order" if kind == "orders" else kind) for kind in NAMED.get(name, ())]
        ready = [k for k, stage in enumerate(self.stages) if stage == STAGE_AHEAD.get(name)]
        if ready and self.random.random() < 0.5:
            numbers[0] = self.one_of(*ready)
        return numbers

    def line(self, calls):
        """A stock and orders first, so that there is something to work with; then all calls, in any order."""
        names = ["cb_system", "cb_hide", "cb_hide", "cb_style"]
        names.extend(["cb_last"] * self.one_of(1, 3, 8) + ["cb_feet"] * self.one_of(1, 3, 8))
        self.random.shuffle(names)
        names.extend(["cb_order"] * self.random.randint(0, 8))
        often = [OFTEN.get(name, 1) for name in NAMES]
        names.extend(self.random.choices(NAMES, often, k=calls - len(names)))
        if self.random.random() < 0.2:
            names[self.random.randrange(calls)] = "cb_start"
        for walk in range(calls // 50):
            at = self.random.randrange(calls)
            backs = self.random.choice((1, 3, 8, 35))
            names[at:at] = ["cb_back"] * backs + ["cb_again"] * self.random.randint(0, backs + 1)
        return names[:calls]


def calls_and_rows(seed, count):
    """A line by chance, and what the model answers."""
    chance, line = Chance(seed), Line()
    calls, rows = [], []
    for name in chance.line(count):
        chance.there = line.ask(("cb_state",))[1:7]
        chance.stages = [line.ask(("cb_stage", k))[0] for k in range(chance.there[-1])]
        calls.append((name,) + tuple(chance.numbers(name)))
        rows.append(line.ask(calls[-1]))
    return calls, rows


class Model(unittest.TestCase):
    def test_lines_by_chance(self):
        seen = set()
        for seed in range(300):
            calls, rows = calls_and_rows(seed, 150)
            for n, (call, told, row) in enumerate(zip(calls, run(*calls), rows)):
                self.assertEqual(told, row, (seed, n, call))
                seen.add((call[0], min(row[0], 0)))
        due = [(name, 0) for name in NAMES]
        for name in REFUSALS:
            due.extend([(name, refusal) for refusal in REFUSALS[name]])
        self.assertEqual(sorted(seen), sorted(due))

    def test_a_line_of_1000_calls(self):
        for seed in (1000, 1001):
            calls, rows = calls_and_rows(seed, 999)
            self.assertEqual(run(*calls), rows, seed)


if __name__ == "__main__":
    unittest.main()
