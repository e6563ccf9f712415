"""Which lasts fit feet."""

ROOM_AHEAD = 36000


def last_fits(last, feet):
    longer = max(feet.left, feet.right)
    return last.length >= longer + ROOM_AHEAD and last.wide >= feet.wide


def all_that_fit(lasts, feet):
    return [n for n, last in enumerate(lasts) if last_fits(last, feet)]


# None where no last fits.
def smallest_that_fits(lasts, feet):
    return min(all_that_fit(lasts, feet), key=lambda n: (lasts[n].length, lasts[n].wide, n), default=None)
