"""The calls that bring a system, a last, feet, a hide or a style into the shop."""

from shoeworks.refusals import NOT_AS_TOLD, TOO_MANY
from shoeworks.shop import Feet, Last, Style, System

MOST_SYSTEMS = 4
MOST_LASTS = 10
MOST_FEET = 10
MOST_HIDES = 5
MOST_STYLES = 4


def is_zero(length):
    return -1000000 <= length <= 1000000


def is_step(length):
    return 1000 <= length <= 100000


def is_last_length(length):
    return 300000 <= length <= 1200000


def is_foot_length(length):
    return 200000 <= length <= 1100000


def is_width(wide):
    return 0 <= wide <= 9


def is_pair_count(pairs):
    return 1 <= pairs <= 9


def is_hide_area(area):
    return 1 <= area <= 60000


def is_style_area(area):
    return 1 <= area <= 20000


def add_one(things, most, thing):
    if len(things) >= most:
        return [TOO_MANY]
    things.append(thing)
    return [len(things) - 1]


def cb_system(shop, zero, step):
    if not (is_zero(zero) and is_step(step)):
        return [NOT_AS_TOLD]
    return add_one(shop.systems, MOST_SYSTEMS, System(zero, step))


def cb_last(shop, length, wide, pairs):
    if not (is_last_length(length) and is_width(wide) and is_pair_count(pairs)):
        return [NOT_AS_TOLD]
    return add_one(shop.lasts, MOST_LASTS, Last(length, wide, pairs))


def cb_feet(shop, left, right, wide):
    if not (is_foot_length(left) and is_foot_length(right) and is_width(wide)):
        return [NOT_AS_TOLD]
    return add_one(shop.feet, MOST_FEET, Feet(left, right, wide))


def cb_hide(shop, area):
    if not is_hide_area(area):
        return [NOT_AS_TOLD]
    return add_one(shop.hides, MOST_HIDES, area)


def cb_style(shop, area, length):
    if not (is_style_area(area) and is_last_length(length)):
        return [NOT_AS_TOLD]
    return add_one(shop.styles, MOST_STYLES, Style(area, length))


def change_stock(shop, name, row):
    if name == "cb_system":
        return cb_system(shop, row[0], row[1])
    if name == "cb_last":
        return cb_last(shop, row[0], row[1], row[2])
    if name == "cb_feet":
        return cb_feet(shop, row[0], row[1], row[2])
    if name == "cb_hide":
        return cb_hide(shop, row[0])
    return cb_style(shop, row[0], row[1])
