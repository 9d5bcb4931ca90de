"""Calls by their names, and their answers one by one."""

from nearkeptdesk.changes import change
from nearkeptdesk.desk import new_desk
from nearkeptdesk.office import answers

NAMES = [
    "begin", "line", "cut", "times", "order", "choose", "greedy", "make", "send", "all_sent",
    "lines", "base", "fresh", "dist", "kept", "marks", "bymarks", "chosen", "bychosen", "route",
    "comes", "length", "sizes", "compare", "count", "back", "state",
]
LARGEST = 4294967295

# One call of each kind but begin, with numbers that fit where there are two places and a line.
OTHERS = [
    ("line", 0, 1, 5), ("cut", 0), ("times", 2), ("order", [1, 0]), ("choose", 1), ("greedy", 1),
    ("make",), ("send", 0, 1), ("all_sent",), ("lines",), ("base",), ("fresh",), ("dist", 0, 1),
    ("kept", 0, 1), ("marks", 0), ("bymarks", 0, 1), ("chosen",), ("bychosen", 0, 1),
    ("route", 0, 1), ("comes", 0, 1), ("length", 0, 1), ("sizes",), ("compare", 0, 1), ("count",),
    ("back",), ("state",),
]


def as_numbers(calls):
    numbers = []
    for call in calls:
        numbers.append(NAMES.index(call[0]))
        for part in call[1:]:
            if isinstance(part, list):
                numbers.append(len(part))
                numbers.extend(part)
            else:
                numbers.append(part)
    return numbers


def told(*calls):
    """Answer the calls, each given as its name and numbers; a list of numbers for each."""
    numbers = as_numbers(calls)
    if len(calls) > 256 or len(numbers) > 4000:
        raise AssertionError("such a list is never handed in")
    handed = list(numbers)
    flat = answers(handed)
    if handed != numbers:
        raise AssertionError("the list handed in was changed")
    rows = []
    at = 0
    while at < len(flat):
        rows.append(flat[at + 1:at + 1 + flat[at]])
        at += 1 + flat[at]
    if at != len(flat) or len(rows) != len(calls):
        raise AssertionError("the answers don't fit the calls")
    return rows


def last(*calls):
    """The last call's answer."""
    return told(*calls)[-1]


def firsts(*calls):
    """Of each call the number that is answered first."""
    return [row[0] for row in told(*calls)]


def pairs(places):
    return [(u, v) for u in range(places) for v in range(places)]


def looks(places):
    """All that the looking calls tell."""
    return [("lines",), ("base",), ("fresh",)] + [("dist", u, v) for u, v in pairs(places) if u < v]


def probe(places):
    """All that can be seen of an object: by looking, by messages, by what's made, by taking back."""
    sends = [("send", u, v) for u, v in pairs(places) if u != v]
    made = [("make",), ("order", list(range(places))[::-1]), ("choose", 1)]
    # Taken back from the front: the first ones undo a few sends, the rest what was there before.
    seen = looks(places) + sends[:4] + [("back",)] * 4 + looks(places)
    return seen + [("back",)] * 11 + looks(places) + sends + made + looks(places)


def nothing_changed(before, call, places, refusal):
    """Whether the call answers this refusal alone and leaves the object as it was."""
    plain = told(*before, *probe(places))
    refused = told(*before, call, *probe(places))
    at = len(before)
    return refused[at] == [refusal] and refused[:at] + refused[at + 1:] == plain


def desk_behind(calls):
    """The desk behind a begin and changes."""
    desk = new_desk(calls[0][1])
    for call in calls[1:]:
        numbers = call[1] if call[0] == "order" else list(call[1:])
        desk = change(desk, NAMES.index(call[0]), numbers)[1]
    return desk
