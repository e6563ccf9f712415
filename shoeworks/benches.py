"""A line of calls, and what they answer."""

from shoeworks.history import History, go_through_history
from shoeworks.questions import ask
from shoeworks.shop import copied_shop
from shoeworks.sizes import ask_sizes
from shoeworks.stock import change_stock
from shoeworks.work import change_work

# By its number each call's name, how many numbers stand behind it, its kind.
CALLS = (
    ("cb_start", 0, "history"),
    ("cb_system", 2, "stock"),
    ("cb_last", 3, "stock"),
    ("cb_feet", 3, "stock"),
    ("cb_hide", 1, "stock"),
    ("cb_style", 2, "stock"),
    ("cb_order", 2, "work"),
    ("cb_cut", 2, "work"),
    ("cb_put", 1, "work"),
    ("cb_day", 1, "work"),
    ("cb_off", 1, "work"),
    ("cb_finish", 1, "work"),
    ("cb_take", 1, "work"),
    ("cb_turn", 3, "sizes"),
    ("cb_long", 2, "sizes"),
    ("cb_near", 2, "sizes"),
    ("cb_which", 1, "questions"),
    ("cb_size", 2, "questions"),
    ("cb_fit", 2, "questions"),
    ("cb_takes", 1, "questions"),
    ("cb_plan", 1, "questions"),
    ("cb_free", 1, "questions"),
    ("cb_soon", 1, "questions"),
    ("cb_left", 1, "questions"),
    ("cb_from", 1, "questions"),
    ("cb_stage", 1, "questions"),
    ("cb_uncut", 0, "questions"),
    ("cb_leather", 0, "questions"),
    ("cb_lasts", 0, "questions"),
    ("cb_back", 0, "history"),
    ("cb_again", 0, "history"),
    ("cb_state", 0, "history"),
)


# A change is made to a copy, which is dropped if the call is refused: so a
# refusal leaves all as it was, and the shop behind a change stays to go back to.
def change(history, name, row, kind):
    shop = copied_shop(history.shop)
    answer = change_stock(shop, name, row) if kind == "stock" else change_work(shop, name, row)
    if answer[0] >= 0:
        history.record(shop)
    return answer


def answer_call(history, name, row, kind):
    if kind == "history":
        return go_through_history(history, name)
    if kind == "sizes":
        return ask_sizes(history.shop, name, row)
    if kind == "questions":
        return ask(history.shop, name, row)
    return change(history, name, row, kind)


def answers(calls):
    history = History()
    told = []
    at = 0
    while at < len(calls):
        call = CALLS[calls[at]]
        behind = at + 1 + call[1]
        answer = answer_call(history, call[0], calls[at + 1:behind], call[2])
        told.append(len(answer))
        told.extend(answer)
        at = behind
    return told
