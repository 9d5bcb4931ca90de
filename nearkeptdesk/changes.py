"""The calls that change something.

Each takes a desk and the call's numbers, and gives back (the number that is answered, the desk as it
is then): another desk, so that the one before can be had again; None if the call is refused.
"""

from nearkeptdesk.choice import chosen_by_greed
from nearkeptdesk.refusals import NO_SUCH, OUT_OF_RANGE, TOO_MANY
from nearkeptdesk.ways import joins

MOST_LINES = 14


def made_anew(desk):
    after = desk.twin()
    after.make()
    return after


def put_line(desk, numbers):
    a = numbers[0]
    b = numbers[1]
    length = numbers[2]
    if not desk.has_places([a, b]):
        return (NO_SUCH, None)
    if a == b or length < 1 or length > 99:
        return (OUT_OF_RANGE, None)
    others = [line for line in desk.lines if not joins(line, a, b)]
    if len(others) >= MOST_LINES:
        return (TOO_MANY, None)
    after = desk.twin()
    after.lines = sorted(others + [(length, min(a, b), max(a, b))])
    return (len(after.lines), after)


def cut_line(desk, numbers):
    number = numbers[0]
    if number >= len(desk.lines):
        return (NO_SUCH, None)
    after = desk.twin()
    after.lines = desk.lines[:number] + desk.lines[number + 1:]
    return (len(after.lines), after)


def set_times(desk, numbers):
    if numbers[0] < 1 or numbers[0] > 9:
        return (OUT_OF_RANGE, None)
    after = desk.twin()
    after.times = numbers[0]
    after.make()
    return (len(after.made.base), after)


def set_order(desk, row):
    if sorted(row) != list(range(desk.places)):
        return (OUT_OF_RANGE, None)
    after = desk.twin()
    after.order = list(row)
    after.make()
    return (after.made.count_marks(), after)


def set_choice(desk, numbers):
    if numbers[0] >= 1 << desk.places:
        return (OUT_OF_RANGE, None)
    after = desk.twin()
    after.choice = numbers[0]
    after.make()
    return (after.made.count_entries(), after)


def choose_by_greed(desk, numbers):
    if numbers[0] < 1 or numbers[0] > 8:
        return (OUT_OF_RANGE, None)
    # Greed looks at the base as it is made anew; a base doesn't depend on who is chosen.
    after = made_anew(desk)
    after.choice = chosen_by_greed(after.made.far, numbers[0])
    after.make()
    return (after.made.count_entries(), after)


def make_all(desk, numbers):
    after = made_anew(desk)
    return (len(after.made.base), after)


def send_one(desk, numbers):
    u = numbers[0]
    v = numbers[1]
    if not desk.has_places([u, v]):
        return (NO_SUCH, None)
    if u == v:
        return (OUT_OF_RANGE, None)
    after = desk.twin()
    comes = after.post(u, v)
    return (comes, after)


def send_all(desk, numbers):
    after = desk.twin()
    for u in range(desk.places):
        for v in range(desk.places):
            if u != v:
                after.post(u, v)
    return (after.sent - desk.sent, after)


CHANGES = {
    1: put_line,
    2: cut_line,
    3: set_times,
    4: set_order,
    5: set_choice,
    6: choose_by_greed,
    7: make_all,
    8: send_one,
    9: send_all,
}


def is_change(call):
    return call in CHANGES


def change(desk, call, numbers):
    act = CHANGES[call]
    return act(desk, numbers)
