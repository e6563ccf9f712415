"""The document's words once more, as plainly as they can be written and without thought of speed.

Taking back and doing again only move changes from one list to another: the
shop is made anew then, out of the changes that stand.
"""

from fractions import Fraction
from itertools import product
from math import ceil

MOST = {"cb_system": 4, "cb_last": 10, "cb_feet": 10, "cb_hide": 5, "cb_style": 4}
EDGES = {
    "cb_system": ((-1000000, 1000000), (1000, 100000)),
    "cb_last": ((300000, 1200000), (0, 9), (1, 9)),
    "cb_feet": ((200000, 1100000), (200000, 1100000), (0, 9)),
    "cb_hide": ((1, 60000),),
    "cb_style": ((1, 20000), (300000, 1200000)),
}
CHANGES = tuple(EDGES) + ("cb_order", "cb_cut", "cb_put", "cb_day", "cb_off", "cb_finish", "cb_take")
# What each number of a call names, where that has to be there.
NAMED = {
    "cb_order": ("cb_feet", "cb_style"), "cb_cut": ("orders", "cb_hide"), "cb_put": ("orders",),
    "cb_off": ("orders",), "cb_finish": ("orders",), "cb_turn": ("cb_system", None, "cb_system"),
    "cb_long": ("cb_system", None), "cb_near": ("cb_system", None), "cb_which": ("cb_feet",),
    "cb_size": ("cb_feet", "cb_system"), "cb_fit": ("cb_feet", "cb_last"), "cb_takes": ("orders",),
    "cb_free": ("cb_last",), "cb_soon": ("orders",), "cb_left": ("cb_hide",), "cb_from": ("orders",),
    "cb_stage": ("orders",),
}


class Refused(Exception):
    pass


def refuse(number, due):
    if due:
        raise Refused(number)


def nearest(system, length):
    about = (length - system[0]) // system[1]
    return min(range(about - 2, about + 4), key=lambda k: (abs(system[0] + k * system[1] - length), -k))


def least(system, length):
    about = (length - system[0]) // system[1]
    return min([k for k in range(about - 2, about + 4) if system[0] + k * system[1] >= length])


class Benches:
    """One shop; of an order its feet, style, last, stage, hide and day."""

    def __init__(self, changes):
        self.things = {name: [] for name in EDGES}
        self.things["orders"] = []
        self.left = []
        self.day = 0
        for call in changes:
            self.ask(call)

    def ask(self, call):
        for kind, number in zip(NAMED.get(call[0], ()), call[1:]):
            refuse(-2, kind is not None and number >= len(self.things[kind]))
        if call[0] in EDGES:
            return self.add(call[0], call[1:])
        return getattr(self, call[0])(*call[1:])

    def add(self, name, numbers):
        refuse(-22, not all([low <= n <= high for n, (low, high) in zip(numbers, EDGES[name])]))
        refuse(-28, len(self.things[name]) == MOST[name])
        self.things[name].append(numbers)
        if name == "cb_hide":
            self.left.append(numbers[0])
        return [len(self.things[name]) - 1]

    def fits(self, f, n):
        left, right, feet_wide = self.things["cb_feet"][f]
        length, wide, pairs = self.things["cb_last"][n]
        return length - left >= 36000 and length - right >= 36000 and wide >= feet_wide

    def fitting(self, f):
        fitting = [n for n in range(len(self.things["cb_last"])) if self.fits(f, n)]
        return sorted(fitting, key=lambda n: self.things["cb_last"][n][:2])

    def takes(self, k):
        area, style_length = self.things["cb_style"][self.things["orders"][k]["style"]]
        length = self.things["cb_last"][self.things["orders"][k]["last"]][0]
        return ceil(area * Fraction(length, style_length) ** 2)

    def those(self, *stages):
        return [k for k, order in enumerate(self.things["orders"]) if order["stage"] in stages]

    def whole(self, h):
        return h not in [order["hide"] for order in self.things["orders"]]

    def third_days(self, last):
        orders = [self.things["orders"][k] for k in self.those(2)]
        return [order["day"] + 3 for order in orders if order["last"] == last]

    def free_from(self, last):
        days = self.third_days(last)
        return self.day if len(days) < self.things["cb_last"][last][2] else max(self.day, min(days))

    def cut(self, k, h):
        self.things["orders"][k].update(stage=1, hide=h)
        self.left[h] -= self.takes(k)

    def cb_order(self, feet, style):
        fitting = self.fitting(feet)
        refuse(-33, not fitting)
        refuse(-28, len(self.things["orders"]) == 10)
        order = {"feet": feet, "style": style, "last": fitting[0], "stage": 0, "hide": None, "day": None}
        self.things["orders"].append(order)
        return [len(self.things["orders"]) - 1, fitting[0]]

    def cb_cut(self, k, h):
        refuse(-17, k not in self.those(0))
        refuse(-12, self.left[h] < self.takes(k))
        self.cut(k, h)
        return [self.left[h]]

    def cb_put(self, k):
        refuse(-16, k not in self.those(1))
        order = self.things["orders"][k]
        refuse(-12, len(self.third_days(order["last"])) == self.things["cb_last"][order["last"]][2])
        order.update(stage=2, day=self.day)
        return [self.day + 3]

    def cb_day(self, n):
        refuse(-22, n == 0 or self.day + n > 10000)
        self.day += n
        return [self.day]

    def cb_off(self, k):
        refuse(-16, k not in self.those(2))
        refuse(-13, self.day - self.things["orders"][k]["day"] < 3)
        self.things["orders"][k]["stage"] = 3
        return [self.things["orders"][k]["last"]]

    def cb_finish(self, k):
        refuse(-16, k not in self.those(3))
        self.things["orders"][k]["stage"] = 4
        return [len(self.those(4))]

    def planned(self, orders):
        named = [k for k in range(32) if orders & 1 << k]
        refuse(-22, [k for k in named if k >= len(self.things["orders"])])
        named = [k for k in named if k in self.those(0)]
        refuse(-28, len(named) > 4)
        plans = []
        takes = [self.takes(k) for k in named]
        whole = {h for h in range(len(self.left)) if self.whole(h)}
        for plan in product(range(len(self.left)), repeat=len(named)):
            left = list(self.left)
            for area, h in zip(takes, plan):
                left[h] -= area
            if min(left, default=0) >= 0:
                plans.append((len(whole & set(plan)), plan))
        refuse(-33, not plans)
        return named, sorted(plans)[0]

    def cb_take(self, orders):
        named, (whole, plan) = self.planned(orders)
        for k, h in zip(named, plan):
            self.cut(k, h)
        return [whole]

    def cb_plan(self, orders):
        named, (whole, plan) = self.planned(orders)
        return [whole, len(named)] + (list(plan) + [0, 0, 0, 0])[:4]

    def cb_turn(self, a, k, b):
        length = self.cb_long(a, k)[0] - 20000000
        size = nearest(self.things["cb_system"][b], length)
        zero, step = self.things["cb_system"][b]
        return [size + 100000, int(zero + size * step == length)]

    def cb_long(self, a, k):
        refuse(-22, k not in range(-100, 201))
        return [self.things["cb_system"][a][0] + k * self.things["cb_system"][a][1] + 20000000]

    def cb_near(self, a, x):
        refuse(-22, x not in range(0, 2000001))
        return [nearest(self.things["cb_system"][a], x) + 100000, least(self.things["cb_system"][a], x) + 100000]

    def cb_which(self, f):
        refuse(-33, not self.fitting(f))
        return [self.fitting(f)[0], len(self.fitting(f))]

    def cb_size(self, f, a):
        last = self.cb_which(f)[0]
        return [nearest(self.things["cb_system"][a], self.things["cb_last"][last][0]) + 100000]

    def cb_fit(self, f, n):
        return [int(self.fits(f, n))]

    def cb_takes(self, k):
        return [self.takes(k)]

    def cb_free(self, n):
        pairs = self.things["cb_last"][n][2]
        return [pairs - len(self.third_days(n)), pairs, self.free_from(n)]

    def cb_soon(self, k):
        refuse(-16, k not in self.those(1, 2))
        order = self.things["orders"][k]
        if k in self.those(2):
            return [max(self.day, order["day"] + 3)]
        return [self.free_from(order["last"]) + 3]

    def cb_left(self, h):
        return [self.left[h], self.things["cb_hide"][h][0]]

    def cb_from(self, k):
        refuse(-6, k in self.those(0))
        return [self.things["orders"][k]["hide"]]

    def cb_stage(self, k):
        return [self.things["orders"][k][part] for part in ("stage", "feet", "style", "last")]

    def cb_uncut(self):
        uncut = self.those(0)
        return [len(uncut), sum([2 ** k for k in uncut]), sum([self.takes(k) for k in uncut])]

    def cb_leather(self):
        had = sum([hide[0] for hide in self.things["cb_hide"]])
        return [sum(self.left), had, sum([self.takes(k) for k in self.those(1, 2, 3, 4)])]

    def cb_lasts(self):
        return [sum([last[2] for last in self.things["cb_last"]]), len(self.those(2))]

    def cb_state(self):
        return [self.day] + [len(self.things[kind]) for kind in tuple(EDGES) + ("orders",)]


class Line:
    """The calls of one line, one behind another."""

    def __init__(self):
        self.cb_start()

    def cb_start(self):
        self.changes, self.undone, self.can_go_back = [], [], 0
        self.benches = Benches([])
        return [0]

    def cb_back(self):
        refuse(-2, self.can_go_back == 0)
        self.undone.append(self.changes.pop())
        self.can_go_back -= 1
        self.benches = Benches(self.changes)
        return [self.can_go_back]

    def cb_again(self):
        refuse(-2, not self.undone)
        self.changes.append(self.undone.pop())
        self.can_go_back += 1
        self.benches = Benches(self.changes)
        return [len(self.undone)]

    def ask(self, call):
        try:
            if call[0] in ("cb_start", "cb_back", "cb_again"):
                return getattr(self, call[0])()
            answer = self.benches.ask(call)
        except Refused as refused:
            return list(refused.args)
        if call[0] in CHANGES:
            self.changes.append(call)
            self.undone, self.can_go_back = [], min(self.can_go_back + 1, 30)
        if call[0] == "cb_state":
            answer = answer + [self.can_go_back, len(self.undone)]
        return answer
