"""What a shop holds at one time."""

TOLD = 0
CUT = 1
ON_LAST = 2
OFF_LAST = 3
FINISHED = 4


class System:
    def __init__(self, zero, step):
        self.zero = zero
        self.step = step


class Last:
    def __init__(self, length, wide, pairs):
        self.length = length
        self.wide = wide
        self.pairs = pairs


class Feet:
    def __init__(self, left, right, wide):
        self.left = left
        self.right = right
        self.wide = wide


class Style:
    def __init__(self, area, length):
        self.area = area
        self.length = length


class Order:
    def __init__(self, feet, style, last):
        self.feet = feet
        self.style = style
        self.last = last
        self.stage = TOLD
        self.hide = None
        self.since = None


# A hide is only the area it had: what it has left follows from the orders
# that were cut out of it, so the two can't come apart.
class Shop:
    def __init__(self):
        self.day = 0
        self.systems = []
        self.lasts = []
        self.feet = []
        self.hides = []
        self.styles = []
        self.orders = []


def copied_order(order):
    copied = Order(order.feet, order.style, order.last)
    copied.stage = order.stage
    copied.hide = order.hide
    copied.since = order.since
    return copied


# Only orders are changed once they are there, so all else may be shared
# between a shop and its copy.
def copied_shop(shop):
    copied = Shop()
    copied.day = shop.day
    copied.systems = list(shop.systems)
    copied.lasts = list(shop.lasts)
    copied.feet = list(shop.feet)
    copied.hides = list(shop.hides)
    copied.styles = list(shop.styles)
    copied.orders = [copied_order(order) for order in shop.orders]
    return copied
