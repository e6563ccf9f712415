"""The shop as it is, with the changes that can be taken back or done again, and the calls for these."""

from shoeworks.refusals import NONE_THERE
from shoeworks.shop import Shop

MOST_CHANGES = 30


# Each change is kept as the whole shop on its other side: a shop that is kept
# here is never changed itself.
class History:
    def __init__(self):
        self.start_anew()

    def start_anew(self):
        self.shop = Shop()
        self.earlier = []
        self.undone = []

    def record(self, shop):
        self.earlier.append(self.shop)
        self.earlier = self.earlier[-MOST_CHANGES:]
        self.undone = []
        self.shop = shop

    def take_back(self):
        self.undone.append(self.shop)
        self.shop = self.earlier.pop()

    def do_again(self):
        self.earlier.append(self.shop)
        self.shop = self.undone.pop()


def cb_start(history):
    history.start_anew()
    return [0]


def cb_back(history):
    if len(history.earlier) == 0:
        return [NONE_THERE]
    history.take_back()
    return [len(history.earlier)]


def cb_again(history):
    if len(history.undone) == 0:
        return [NONE_THERE]
    history.do_again()
    return [len(history.undone)]


def cb_state(history):
    shop = history.shop
    things = (shop.systems, shop.lasts, shop.feet, shop.hides, shop.styles, shop.orders)
    counts = [len(those) for those in things]
    return [shop.day] + counts + [len(history.earlier), len(history.undone)]


def go_through_history(history, name):
    if name == "cb_start":
        return cb_start(history)
    if name == "cb_back":
        return cb_back(history)
    if name == "cb_again":
        return cb_again(history)
    return cb_state(history)
