"""The calls that tell an order and bring it on, and the one that lets days go by."""

from shoeworks.fitting import smallest_that_fits
from shoeworks.lasting import comes_off_from, free_pairs
from shoeworks.leather import leather_left, leather_taken
from shoeworks.planning import cb_plan, uncut_among
from shoeworks.refusals import CUT_ALREADY, NONE_FITS, NONE_THERE, NOT_AS_TOLD, NOT_ENOUGH
from shoeworks.refusals import TOO_EARLY, TOO_MANY, WRONG_STAGE
from shoeworks.shop import CUT, FINISHED, OFF_LAST, ON_LAST, TOLD, Order

MOST_ORDERS = 10
LAST_DAY = 10000


def cb_order(shop, feet, style):
    if feet >= len(shop.feet) or style >= len(shop.styles):
        return [NONE_THERE]
    last = smallest_that_fits(shop.lasts, shop.feet[feet])
    if last is None:
        return [NONE_FITS]
    if len(shop.orders) >= MOST_ORDERS:
        return [TOO_MANY]
    shop.orders.append(Order(feet, style, last))
    return [len(shop.orders) - 1, last]


def cut_out_of(order, h):
    order.stage = CUT
    order.hide = h


def cb_cut(shop, k, h):
    if k >= len(shop.orders) or h >= len(shop.hides):
        return [NONE_THERE]
    order = shop.orders[k]
    if order.stage != TOLD:
        return [CUT_ALREADY]
    if leather_left(shop, h) < leather_taken(shop, order):
        return [NOT_ENOUGH]
    cut_out_of(order, h)
    return [leather_left(shop, h)]


def cb_put(shop, k):
    if k >= len(shop.orders):
        return [NONE_THERE]
    order = shop.orders[k]
    if order.stage != CUT:
        return [WRONG_STAGE]
    if free_pairs(shop, order.last) == 0:
        return [NOT_ENOUGH]
    order.stage = ON_LAST
    order.since = shop.day
    return [comes_off_from(order)]


def cb_day(shop, n):
    if n == 0 or shop.day + n > LAST_DAY:
        return [NOT_AS_TOLD]
    shop.day = shop.day + n
    return [shop.day]


def cb_off(shop, k):
    if k >= len(shop.orders):
        return [NONE_THERE]
    order = shop.orders[k]
    if order.stage != ON_LAST:
        return [WRONG_STAGE]
    if shop.day < comes_off_from(order):
        return [TOO_EARLY]
    order.stage = OFF_LAST
    return [order.last]


def cb_finish(shop, k):
    if k >= len(shop.orders):
        return [NONE_THERE]
    if shop.orders[k].stage != OFF_LAST:
        return [WRONG_STAGE]
    shop.orders[k].stage = FINISHED
    return [len([order for order in shop.orders if order.stage == FINISHED])]


# The plan's refusals are this call's too. Hides stand behind its first two
# numbers: a refusal has none, and zip leaves out the zeros behind the orders'.
def cb_take(shop, bits):
    told = cb_plan(shop, bits)
    for k, h in zip(uncut_among(shop, bits), told[2:]):
        cut_out_of(shop.orders[k], h)
    return told[:1]


def change_work(shop, name, row):
    if name == "cb_order":
        return cb_order(shop, row[0], row[1])
    if name == "cb_cut":
        return cb_cut(shop, row[0], row[1])
    if name == "cb_put":
        return cb_put(shop, row[0])
    if name == "cb_day":
        return cb_day(shop, row[0])
    if name == "cb_off":
        return cb_off(shop, row[0])
    if name == "cb_finish":
        return cb_finish(shop, row[0])
    return cb_take(shop, row[0])
