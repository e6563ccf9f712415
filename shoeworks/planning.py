"""Out of which hides orders are to be cut, and the call that asks for it."""

from shoeworks.leather import leather_left, leather_taken, whole_hides
from shoeworks.refusals import NONE_FITS, NOT_AS_TOLD, TOO_MANY
from shoeworks.shop import TOLD

MOST_PLANNED = 4


def uncut_among(shop, bits):
    return [k for k, order in enumerate(shop.orders) if (bits >> k) & 1 == 1 and order.stage == TOLD]


def cuts_into(plan, whole):
    return len([h for h in whole if h in plan])


def left_behind(plan, takes, left):
    spare = list(left)
    for area, h in zip(takes, plan):
        spare[h] = spare[h] - area
    return spare


# The plans stay in their order: lesser hides come first.
def one_order_longer(plans, takes, left):
    longer = []
    for plan in plans:
        spare = left_behind(plan, takes, left)
        area = takes[len(plan)]
        longer.extend([plan + [h] for h in range(len(left)) if spare[h] >= area])
    return longer


def all_plans(takes, left):
    plans = [[]]
    for planned in range(len(takes)):
        plans = one_order_longer(plans, takes, left)
    return plans


# None where there's no plan. Of plans that cut into as few, min takes the first.
def best_plan(shop, numbers, whole):
    takes = [leather_taken(shop, shop.orders[k]) for k in numbers]
    left = [leather_left(shop, h) for h in range(len(shop.hides))]
    return min(all_plans(takes, left), key=lambda plan: cuts_into(plan, whole), default=None)


def cb_plan(shop, bits):
    if bits >> len(shop.orders) != 0:
        return [NOT_AS_TOLD]
    numbers = uncut_among(shop, bits)
    if len(numbers) > MOST_PLANNED:
        return [TOO_MANY]
    whole = whole_hides(shop)
    plan = best_plan(shop, numbers, whole)
    if plan is None:
        return [NONE_FITS]
    return [cuts_into(plan, whole), len(plan)] + plan + [0] * (MOST_PLANNED - len(plan))
