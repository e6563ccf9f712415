"""The shop as it is, with the changes that can be taken back or done again."""

from shoeworks.shop import Shop

MOST_CHANGES = 30


# Each change is kept as the whole shop on its other side: a shop that is kept
# here is never changed itself.
class History:
    def __init__(self):
        self.start_anew()

    def start_anew(self):
        self.shop = Shop()
        self.earlier = []
        self.undone = []

    def record(self, shop):
        self.earlier.append(self.shop)
        self.earlier = self.earlier[-MOST_CHANGES:]
        self.undone = []
        self.shop = shop

    def take_back(self):
        self.undone.append(self.shop)
        self.shop = self.earlier.pop()

    def do_again(self):
        self.earlier.append(self.shop)
        self.shop = self.undone.pop()
