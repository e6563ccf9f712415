"""Lines of calls by their names, for the tests."""

from shoeworks.benches import answers

NAMES = (
    "cb_start", "cb_system", "cb_last", "cb_feet", "cb_hide", "cb_style", "cb_order", "cb_cut",
    "cb_put", "cb_day", "cb_off", "cb_finish", "cb_take", "cb_turn", "cb_long", "cb_near",
)
WIDEST = 4294967295
START = ("cb_start",)


def flat(calls):
    numbers = []
    for call in calls:
        numbers.append(NAMES.index(call[0]))
        numbers.extend(call[1:])
    return numbers


def split(told):
    rows = []
    at = 0
    while at < len(told):
        rows.append(told[at + 1:at + 1 + told[at]])
        assert len(rows[-1]) == told[at] >= 1, told
        at += 1 + told[at]
    return rows


def run(*calls):
    """What each call of a new line answers; a start is put ahead of them."""
    rows = split(answers(flat([START] + list(calls))))
    assert rows[0] == [0]
    assert len(rows) == len(calls) + 1
    return rows[1:]


def last_of(*calls):
    return run(*calls)[-1]


# On this last a pair of the style takes just as much as the style says.
LAST = ("cb_last", 300000, 5, 9)
FEET = ("cb_feet", 200000, 200000, 5)


def style(area):
    return ("cb_style", area, 300000)


def shop_with(hides, areas):
    """Hides, and an order for each area (at most 4 areas that differ)."""
    calls = [LAST, FEET]
    calls.extend([("cb_hide", hide) for hide in hides])
    kinds = sorted(set(areas))
    calls.extend([style(area) for area in kinds])
    calls.extend([("cb_order", 0, kinds.index(area)) for area in areas])
    return calls
