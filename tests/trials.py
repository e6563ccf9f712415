"""Hides and orders by chance, and the plan for them by trying all."""

from itertools import product


def cut_by_chance(chance, most_orders):
    """Hides, orders' areas, and which of them are cut out of which hide."""
    hides = [chance.randint(5, 40) for h in range(chance.randint(1, 5))]
    sizes = [chance.randint(1, 20) for kind in range(3)]
    areas = [chance.choice(sizes) for k in range(chance.randint(1, most_orders))]
    left, cut = list(hides), []
    for k in range(len(areas)):
        h = chance.randrange(len(hides))
        if chance.random() < 0.4 and left[h] >= areas[k]:
            left[h] -= areas[k]
            cut.append((k, h))
    return hides, areas, cut


def left_behind(hides, areas, cut):
    return [hide - sum([areas[k] for k, g in cut if g == h]) for h, hide in enumerate(hides)]


def plan_by_trial(hides, areas, cut, named):
    """How many whole hides it cuts into, and the plan; None where there's none."""
    whole = set(range(len(hides))) - {h for k, h in cut}
    plans = []
    for trial in product(range(len(hides)), repeat=len(named)):
        if min(left_behind(hides, areas, cut + list(zip(named, trial)))) >= 0:
            plans.append((len(whole & set(trial)), list(trial)))
    return min(plans, default=None)
