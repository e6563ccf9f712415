"""Sizes of the systems, and the calls that ask for them."""

from shoeworks.refusals import NONE_THERE, NOT_AS_TOLD

LEAST_SIZE = -100
GREATEST_SIZE = 200
GREATEST_LENGTH = 2000000

# Sizes and their lengths may be below 0, where an answer would be a refusal.
SIZE_SHIFT = 100000
LENGTH_SHIFT = 20000000


def size_length(system, k):
    return system.zero + k * system.step


# Half a step more, rounded down, so that the greater of two as near is found.
def nearest_size(system, length):
    return (2 * (length - system.zero) + system.step) // (2 * system.step)


# Rounded up, as the other sign's rounding down.
def least_size(system, length):
    return -((system.zero - length) // system.step)


def cb_turn(shop, a, k, b):
    if a >= len(shop.systems) or b >= len(shop.systems):
        return [NONE_THERE]
    if not LEAST_SIZE <= k <= GREATEST_SIZE:
        return [NOT_AS_TOLD]
    length = size_length(shop.systems[a], k)
    size = nearest_size(shop.systems[b], length)
    just_as_long = 1 if size_length(shop.systems[b], size) == length else 0
    return [size + SIZE_SHIFT, just_as_long]


def cb_long(shop, a, k):
    if a >= len(shop.systems):
        return [NONE_THERE]
    if not LEAST_SIZE <= k <= GREATEST_SIZE:
        return [NOT_AS_TOLD]
    return [size_length(shop.systems[a], k) + LENGTH_SHIFT]


def cb_near(shop, a, x):
    if a >= len(shop.systems):
        return [NONE_THERE]
    if not 0 <= x <= GREATEST_LENGTH:
        return [NOT_AS_TOLD]
    system = shop.systems[a]
    return [nearest_size(system, x) + SIZE_SHIFT, least_size(system, x) + SIZE_SHIFT]


def ask_sizes(shop, name, row):
    if name == "cb_turn":
        return cb_turn(shop, row[0], row[1], row[2])
    if name == "cb_long":
        return cb_long(shop, row[0], row[1])
    return cb_near(shop, row[0], row[1])
