"""How much leather orders take and hides have, and out of which hides to cut."""


def leather_taken(shop, order):
    style = shop.styles[order.style]
    length = shop.lasts[order.last].length
    # Rounded up, as the other sign's rounding down: no fraction is ever lost.
    return -(-style.area * length * length // (style.length * style.length))


def orders_out_of(shop, h):
    return [order for order in shop.orders if order.hide == h]


def leather_left(shop, h):
    return shop.hides[h] - sum([leather_taken(shop, order) for order in orders_out_of(shop, h)])


def whole_hides(shop):
    return [h for h in range(len(shop.hides)) if len(orders_out_of(shop, h)) == 0]


def cuts_into(plan, whole):
    return len([h for h in whole if h in plan])


# Asks for the plan's last hide alone: the others were asked for when the plan
# was shorter.
def has_leather(plan, takes, left):
    h = plan[-1]
    return sum([area for area, hide in zip(takes, plan) if hide == h]) <= left[h]


# The plans stay in their order: lesser hides come first.
def one_order_longer(plans, takes, left):
    longer = []
    for plan in plans:
        for h in range(len(left)):
            if has_leather(plan + [h], takes, left):
                longer.append(plan + [h])
    return longer


def all_plans(takes, left):
    plans = [[]]
    for planned in range(len(takes)):
        plans = one_order_longer(plans, takes, left)
    return plans


# None where there's no plan. Of plans that cut into as few, min takes the first.
def best_plan(shop, numbers):
    takes = [leather_taken(shop, shop.orders[k]) for k in numbers]
    left = [leather_left(shop, h) for h in range(len(shop.hides))]
    whole = whole_hides(shop)
    return min(all_plans(takes, left), key=lambda plan: cuts_into(plan, whole), default=None)
