"""Lines of calls by their names, for the tests."""

from shoeworks.benches import answers

NAMES = (
    "cb_start", "cb_system", "cb_last", "cb_feet", "cb_hide", "cb_style", "cb_order", "cb_cut",
    "cb_put", "cb_day", "cb_off", "cb_finish", "cb_take", "cb_turn", "cb_long", "cb_near",
    "cb_which", "cb_size", "cb_fit", "cb_takes", "cb_plan", "cb_free", "cb_soon", "cb_left", "cb_from", "cb_stage",
    "cb_uncut", "cb_leather", "cb_lasts", "cb_back", "cb_again", "cb_state",
)
WIDEST = 4294967295
START = ("cb_start",)


def flat(calls):
    numbers = []
    for call in calls:
        numbers.append(NAMES.index(call[0]))
        numbers.extend(call[1:])
    return numbers


def split(told):
    rows = []
    at = 0
    while at < len(told):
        rows.append(told[at + 1:at + 1 + told[at]])
        assert len(rows[-1]) == told[at] >= 1, told
        at += 1 + told[at]
    return rows


def run(*calls):
    """What each call of a new line answers; a start is put ahead of them."""
    rows = split(answers(flat([START] + list(calls))))
    assert rows[0] == [0]
    assert len(rows) == len(calls) + 1
    return rows[1:]


def last_of(*calls):
    return run(*calls)[-1]


# On this last a pair of the style takes just as much as the style says.
LAST = ("cb_last", 300000, 5, 9)
FEET = ("cb_feet", 200000, 200000, 5)


def style(area):
    return ("cb_style", area, 300000)


def shop_with(hides, areas):
    """Hides, and an order for each area (at most 4 areas that differ)."""
    calls = [LAST, FEET]
    calls.extend([("cb_hide", hide) for hide in hides])
    kinds = sorted(set(areas))
    calls.extend([style(area) for area in kinds])
    calls.extend([("cb_order", 0, kinds.index(area)) for area in areas])
    return calls


# All that can be asked of a shop but its plans and its turned sizes.
LOOK = [("cb_state",), ("cb_uncut",), ("cb_leather",), ("cb_lasts",)]
for number in range(10):
    LOOK.extend([(name, number) for name in ("cb_stage", "cb_takes", "cb_from", "cb_soon", "cb_free", "cb_which")])
    LOOK.extend([("cb_fit", number, last) for last in range(10)])
for number in range(5):
    LOOK.extend([("cb_left", number), ("cb_long", number, 0), ("cb_long", number, 1), ("cb_size", 0, number)])


def look(*calls):
    """What is seen of the shop behind these calls."""
    return run(*calls, *LOOK)[len(calls):]


def state(*calls):
    return last_of(*calls, ("cb_state",))
