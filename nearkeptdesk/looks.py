"""The calls that only look: each takes a desk and the call's numbers, and gives back the answer."""

from nearkeptdesk.refusals import NONE_THERE, NO_SUCH
from nearkeptdesk.ways import distances


def told_lines(lines):
    told = [len(lines)]
    for line in lines:
        told.extend([line[1], line[2], line[0]])
    return told


def look_lines(desk, numbers):
    return told_lines(desk.lines)


def look_base(desk, numbers):
    return told_lines(desk.made.base)


def look_fresh(desk, numbers):
    return [1 if desk.lines == desk.made.source else 0]


def look_distance(desk, numbers):
    u = numbers[0]
    v = numbers[1]
    if not desk.has_places(u, v):
        return [NO_SUCH]
    far = distances(desk.places, desk.lines)[u][v]
    return [NONE_THERE if far is None else far]


LOOKS = {
    10: look_lines,
    11: look_base,
    12: look_fresh,
    13: look_distance,
}


def is_look(call):
    return call in LOOKS


def look(desk, call, numbers):
    act = LOOKS[call]
    return act(desk, numbers)
