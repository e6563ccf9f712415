"""The calls that ask for lasts that fit, for orders, leather and pairs of lasts."""

from shoeworks.fitting import all_that_fit, last_fits, smallest_that_fits
from shoeworks.lasting import DAYS_ON_LAST, all_on_lasts, earliest_off, free_from, free_pairs
from shoeworks.leather import leather_left, leather_taken, taken_together
from shoeworks.planning import cb_plan
from shoeworks.refusals import NONE_FITS, NONE_THERE, NOT_CUT, WRONG_STAGE
from shoeworks.shop import CUT, ON_LAST, TOLD
from shoeworks.sizes import SIZE_SHIFT, nearest_size


def cb_which(shop, f):
    if f >= len(shop.feet):
        return [NONE_THERE]
    smallest = smallest_that_fits(shop.lasts, shop.feet[f])
    if smallest is None:
        return [NONE_FITS]
    return [smallest, len(all_that_fit(shop.lasts, shop.feet[f]))]


def cb_size(shop, f, a):
    if f >= len(shop.feet) or a >= len(shop.systems):
        return [NONE_THERE]
    smallest = smallest_that_fits(shop.lasts, shop.feet[f])
    if smallest is None:
        return [NONE_FITS]
    return [nearest_size(shop.systems[a], shop.lasts[smallest].length) + SIZE_SHIFT]


def cb_fit(shop, f, number):
    if f >= len(shop.feet) or number >= len(shop.lasts):
        return [NONE_THERE]
    return [1 if last_fits(shop.lasts[number], shop.feet[f]) else 0]


def cb_takes(shop, k):
    if k >= len(shop.orders):
        return [NONE_THERE]
    return [leather_taken(shop, shop.orders[k])]


def cb_free(shop, number):
    if number >= len(shop.lasts):
        return [NONE_THERE]
    return [free_pairs(shop, number), shop.lasts[number].pairs, free_from(shop, number)]


def cb_soon(shop, k):
    if k >= len(shop.orders):
        return [NONE_THERE]
    order = shop.orders[k]
    if order.stage == CUT:
        return [free_from(shop, order.last) + DAYS_ON_LAST]
    if order.stage == ON_LAST:
        return [earliest_off(shop, order)]
    return [WRONG_STAGE]


def cb_left(shop, h):
    if h >= len(shop.hides):
        return [NONE_THERE]
    return [leather_left(shop, h), shop.hides[h]]


def cb_from(shop, k):
    if k >= len(shop.orders):
        return [NONE_THERE]
    if shop.orders[k].stage == TOLD:
        return [NOT_CUT]
    return [shop.orders[k].hide]


def cb_stage(shop, k):
    if k >= len(shop.orders):
        return [NONE_THERE]
    order = shop.orders[k]
    return [order.stage, order.feet, order.style, order.last]


def cb_uncut(shop):
    numbers = [k for k, order in enumerate(shop.orders) if order.stage == TOLD]
    bits = sum([1 << k for k in numbers])
    return [len(numbers), bits, taken_together(shop, [shop.orders[k] for k in numbers])]


def cb_leather(shop):
    left = sum([leather_left(shop, h) for h in range(len(shop.hides))])
    was_cut = taken_together(shop, [order for order in shop.orders if order.stage != TOLD])
    return [left, sum(shop.hides), was_cut]


def cb_lasts(shop):
    return [sum([last.pairs for last in shop.lasts]), len(all_on_lasts(shop))]


def ask(shop, name, row):
    if name == "cb_which":
        return cb_which(shop, row[0])
    if name == "cb_size":
        return cb_size(shop, row[0], row[1])
    if name == "cb_fit":
        return cb_fit(shop, row[0], row[1])
    if name == "cb_takes":
        return cb_takes(shop, row[0])
    if name == "cb_plan":
        return cb_plan(shop, row[0])
    if name == "cb_free":
        return cb_free(shop, row[0])
    if name == "cb_soon":
        return cb_soon(shop, row[0])
    if name == "cb_left":
        return cb_left(shop, row[0])
    if name == "cb_from":
        return cb_from(shop, row[0])
    if name == "cb_stage":
        return cb_stage(shop, row[0])
    if name == "cb_uncut":
        return cb_uncut(shop)
    if name == "cb_leather":
        return cb_leather(shop)
    return cb_lasts(shop)
