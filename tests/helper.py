"""Calls by their names, and their answers one by one."""

from nearkeptdesk.changes import change
from nearkeptdesk.desk import new_desk
from nearkeptdesk.office import answers

NAMES = [
    "begin", "line", "cut", "times", "order", "choose", "greedy", "make", "send", "all_sent",
    "lines", "base", "fresh", "dist", "kept", "marks", "bymarks", "chosen", "bychosen", "route",
    "comes", "length", "sizes", "compare", "count", "back", "state",
]
LARGEST = 4294967295

# One call of each kind but begin, with numbers that fit where there are two places and a line.
OTHERS = [
    ("line", 0, 1, 5), ("cut", 0), ("times", 2), ("order", [1, 0]), ("choose", 1), ("greedy", 1),
    ("make",), ("send", 0, 1), ("all_sent",), ("lines",), ("base",), ("fresh",), ("dist", 0, 1),
    ("kept", 0, 1), ("marks", 0), ("bymarks", 0, 1), ("chosen",), ("bychosen", 0, 1),
    ("route", 0, 1), ("comes", 0, 1), ("length", 0, 1), ("sizes",), ("compare", 0, 1), ("count",),
    ("back",), ("state",),
]


def as_numbers(calls):
    numbers = []
    for call in calls:
        numbers.append(NAMES.index(call[0]))
        for part in call[1:]:
            if isinstance(part, list):
                numbers.append(len(part))
                numbers.extend(part)
            else:
                numbers.append(part)
    return numbers


def told(*calls):
    """Answer the calls, each given as its name and numbers; a list of numbers for each."""
    numbers = as_numbers(calls)
    if len(calls) > 256 or len(numbers) > 4000:
        raise AssertionError("such a list is never handed in")
    handed = list(numbers)
    flat = answers(handed)
    if handed != numbers:
        raise AssertionError("the list handed in was changed")
    rows = []
    at = 0
    while at < len(flat):
        rows.append(flat[at + 1:at + 1 + flat[at]])
        at += 1 + flat[at]
    if at != len(flat) or len(rows) != len(calls):
        raise AssertionError("the answers don't fit the calls")
    return rows


def last(*calls):
    """The last call's answer."""
    return told(*calls)[-1]


def firsts(*calls):
    """Of each call the number that is answered first."""
    return [row[0] for row in told(*calls)]


def pairs(places):
    return [(u, v) for u in range(places) for v in range(places)]


def looks(places):
    """All that the looking calls tell: of two places compare tells what five calls do."""
    seen = [("lines",), ("base",), ("fresh",), ("chosen",), ("sizes",), ("count",), ("state",)]
    seen += [("marks", v) for v in range(places)]
    return seen + [("compare" if u < v else "route", u, v) for u, v in pairs(places)]


def probes(places):
    """Lists of calls by which all can be seen of an object: what is there, what was, and the order."""
    star = [("line", 0, place, 1) for place in range(1, places)]
    now = looks(places) + star + [("make",)] + [("marks", v) for v in range(places)]
    past = [("back",), ("state",), ("count",)] * 11 + looks(places)
    return [now + [("all_sent",), ("count",)], past]


def left_as_it_was(before, call, places):
    """Whether all is the same behind these calls and another one as without that one."""
    at = len(before)
    for probe in probes(places):
        if told(*before, call, *probe)[at + 1:] != told(*before, *probe)[at:]:
            return False
    return True


def nothing_changed(before, call, places, refusal):
    """Whether the call answers this refusal alone and leaves the object as it was."""
    return last(*before, call) == [refusal] and left_as_it_was(before, call, places)


def desk_behind(calls):
    """The desk behind a begin and changes."""
    desk = new_desk(calls[0][1])
    for call in calls[1:]:
        numbers = call[1] if call[0] == "order" else list(call[1:])
        desk = change(desk, NAMES.index(call[0]), numbers)[1]
    return desk
