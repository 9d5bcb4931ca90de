"""The calls that only look: each takes a desk and the call's numbers, and gives back the answer.

Those that tell one number of two places take these, and give back the number, None if there is none.
"""

from nearkeptdesk.choice import told_by_chosen
from nearkeptdesk.marks import told_by_marks
from nearkeptdesk.refusals import NONE_THERE, NO_SUCH
from nearkeptdesk.ways import distances

# Stands in compare's answer for what there isn't; it's no refusal.
MISSING = -1


def told_lines(lines):
    told = [len(lines)]
    for line in lines:
        told.extend([line[1], line[2], line[0]])
    return told


def look_lines(desk, numbers):
    return told_lines(desk.lines)


def look_base(desk, numbers):
    return told_lines(desk.made.base)


def look_fresh(desk, numbers):
    return [1 if desk.lines == desk.made.source else 0]


def look_marks(desk, numbers):
    marks = desk.made.marks[numbers[0]]
    told = [len(marks)]
    for mark in marks:
        told.extend([mark[0], mark[1]])
    return told


def look_chosen(desk, numbers):
    chosen = desk.chosen()
    return [len(chosen)] + chosen


def look_route(desk, numbers):
    way = desk.message_way(numbers[0], numbers[1])
    return [len(way)] + way


def look_comes(desk, numbers):
    return [0 if desk.message_goes(numbers[0], numbers[1]) is None else 1]


def look_sizes(desk, numbers):
    made = desk.made
    # By the document each place has all chosen ones besides those near it.
    near = made.count_near() + desk.places * len(desk.chosen())
    return [4, len(made.base), made.count_marks(), near, made.count_entries()]


def look_count(desk, numbers):
    return [desk.sent, desk.lost, desk.gone]


def far_in_land(desk, u, v):
    return distances(desk.places, desk.lines)[u][v]


def far_in_base(desk, u, v):
    return desk.made.far[u][v]


def far_by_marks(desk, u, v):
    return told_by_marks(desk.made.marks, u, v)


def far_by_chosen(desk, u, v):
    return told_by_chosen(desk.made.far, desk.made.nearest, u, v)


def far_by_message(desk, u, v):
    return desk.message_goes(u, v)


# In the order in which compare tells them.
COMPARED = (far_in_land, far_in_base, far_by_marks, far_by_chosen, far_by_message)


def look_compare(desk, numbers):
    answer = [0]
    for tell in COMPARED:
        told = tell(desk, numbers[0], numbers[1])
        answer.append(MISSING if told is None else told)
    return answer


OF_TWO_PLACES = {
    13: far_in_land,
    14: far_in_base,
    16: far_by_marks,
    18: far_by_chosen,
    21: far_by_message,
}

LOOKS = {
    10: look_lines,
    11: look_base,
    12: look_fresh,
    15: look_marks,
    17: look_chosen,
    19: look_route,
    20: look_comes,
    22: look_sizes,
    23: look_compare,
    24: look_count,
}


def look(desk, call, numbers):
    # Whatever numbers a looking call takes are places.
    if not desk.has_places(numbers):
        return [NO_SUCH]
    if call in OF_TWO_PLACES:
        tell = OF_TWO_PLACES[call]
        told = tell(desk, numbers[0], numbers[1])
        return [NONE_THERE if told is None else told]
    act = LOOKS[call]
    return act(desk, numbers)
