"""How much leather orders take, and how much hides have left."""


def leather_taken(shop, order):
    style = shop.styles[order.style]
    length = shop.lasts[order.last].length
    # Rounded up, as the other sign's rounding down: no fraction is ever lost.
    return -(-style.area * length * length // (style.length * style.length))


def taken_together(shop, orders):
    return sum([leather_taken(shop, order) for order in orders])


def orders_out_of(shop, h):
    return [order for order in shop.orders if order.hide == h]


def leather_left(shop, h):
    return shop.hides[h] - taken_together(shop, orders_out_of(shop, h))


def whole_hides(shop):
    return [h for h in range(len(shop.hides)) if len(orders_out_of(shop, h)) == 0]
