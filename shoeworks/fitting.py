"""Which lasts fit feet."""

ROOM_AHEAD = 36000


def last_fits(last, feet):
    longer = max(feet.left, feet.right)
    return last.length >= longer + ROOM_AHEAD and last.wide >= feet.wide


# None where no last fits.
def smallest_that_fits(lasts, feet):
    fitting = [n for n, last in enumerate(lasts) if last_fits(last, feet)]
    return min(fitting, key=lambda n: (lasts[n].length, lasts[n].wide, n), default=None)
