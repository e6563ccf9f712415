"""Which orders are on lasts, and when their pairs are free."""

from shoeworks.shop import ON_LAST

DAYS_ON_LAST = 3


def all_on_lasts(shop):
    return [order for order in shop.orders if order.stage == ON_LAST]


def orders_on(shop, number):
    return [order for order in all_on_lasts(shop) if order.last == number]


def free_pairs(shop, number):
    return shop.lasts[number].pairs - len(orders_on(shop, number))


def comes_off_from(order):
    return order.since + DAYS_ON_LAST


# An order whose days are over may still be on its last: it can't come off
# before today.
def earliest_off(shop, order):
    return max(shop.day, comes_off_from(order))


def free_from(shop, number):
    if free_pairs(shop, number) > 0:
        return shop.day
    return min([earliest_off(shop, order) for order in orders_on(shop, number)])
