"""The calls that tell an order and bring it on, and the one that lets days go by."""

from shoeworks.fitting import smallest_that_fits
from shoeworks.leather import best_plan, cuts_into, leather_left, leather_taken, whole_hides
from shoeworks.refusals import CUT_ALREADY, NONE_FITS, NONE_THERE, NOT_AS_TOLD, NOT_ENOUGH
from shoeworks.refusals import TOO_EARLY, TOO_MANY, WRONG_STAGE
from shoeworks.shop import CUT, FINISHED, OFF_LAST, ON_LAST, TOLD, Order

MOST_ORDERS = 10
MOST_PLANNED = 4
DAYS_ON_LAST = 3
LAST_DAY = 10000


def cb_order(shop, feet, style):
    if feet >= len(shop.feet) or style >= len(shop.styles):
        return [NONE_THERE]
    last = smallest_that_fits(shop.lasts, shop.feet[feet])
    if last is None:
        return [NONE_FITS]
    if len(shop.orders) >= MOST_ORDERS:
        return [TOO_MANY]
    shop.orders.append(Order(feet, style, last))
    return [len(shop.orders) - 1, last]


def cut_out_of(order, h):
    order.stage = CUT
    order.hide = h


def cb_cut(shop, k, h):
    if k >= len(shop.orders) or h >= len(shop.hides):
        return [NONE_THERE]
    order = shop.orders[k]
    if order.stage != TOLD:
        return [CUT_ALREADY]
    if leather_left(shop, h) < leather_taken(shop, order):
        return [NOT_ENOUGH]
    cut_out_of(order, h)
    return [leather_left(shop, h)]


def free_pairs(shop, number):
    on_it = [order for order in shop.orders if order.stage == ON_LAST and order.last == number]
    return shop.lasts[number].pairs - len(on_it)


def comes_off_from(order):
    return order.since + DAYS_ON_LAST


def cb_put(shop, k):
    if k >= len(shop.orders):
        return [NONE_THERE]
    order = shop.orders[k]
    if order.stage != CUT:
        return [WRONG_STAGE]
    if free_pairs(shop, order.last) == 0:
        return [NOT_ENOUGH]
    order.stage = ON_LAST
    order.since = shop.day
    return [comes_off_from(order)]


def cb_day(shop, n):
    if n == 0 or shop.day + n > LAST_DAY:
        return [NOT_AS_TOLD]
    shop.day = shop.day + n
    return [shop.day]


def cb_off(shop, k):
    if k >= len(shop.orders):
        return [NONE_THERE]
    order = shop.orders[k]
    if order.stage != ON_LAST:
        return [WRONG_STAGE]
    if shop.day < comes_off_from(order):
        return [TOO_EARLY]
    order.stage = OFF_LAST
    return [order.last]


def cb_finish(shop, k):
    if k >= len(shop.orders):
        return [NONE_THERE]
    if shop.orders[k].stage != OFF_LAST:
        return [WRONG_STAGE]
    shop.orders[k].stage = FINISHED
    return [len([order for order in shop.orders if order.stage == FINISHED])]


def uncut_among(shop, bits):
    return [k for k, order in enumerate(shop.orders) if (bits >> k) & 1 == 1 and order.stage == TOLD]


def cb_take(shop, bits):
    if bits >> len(shop.orders) != 0:
        return [NOT_AS_TOLD]
    numbers = uncut_among(shop, bits)
    if len(numbers) > MOST_PLANNED:
        return [TOO_MANY]
    plan = best_plan(shop, numbers)
    if plan is None:
        return [NONE_FITS]
    # Counted ahead of the cutting, behind which these hides are no longer whole.
    newly_cut = cuts_into(plan, whole_hides(shop))
    for k, h in zip(numbers, plan):
        cut_out_of(shop.orders[k], h)
    return [newly_cut]


def change_work(shop, name, row):
    if name == "cb_order":
        return cb_order(shop, row[0], row[1])
    if name == "cb_cut":
        return cb_cut(shop, row[0], row[1])
    if name == "cb_put":
        return cb_put(shop, row[0])
    if name == "cb_day":
        return cb_day(shop, row[0])
    if name == "cb_off":
        return cb_off(shop, row[0])
    if name == "cb_finish":
        return cb_finish(shop, row[0])
    return cb_take(shop, row[0])
