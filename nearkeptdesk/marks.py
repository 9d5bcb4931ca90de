"""Marks that tell distances.

A mark is (place, distance); marks are a list of them for each place, in the order in which they came.
"""

from nearkeptdesk.ways import lesser


def told_by_marks(marks, u, v):
    least = None
    for mark in marks[u]:
        for other in marks[v]:
            if mark[0] == other[0]:
                least = lesser(least, mark[1] + other[1])
    return least


def places_to_mark(far, marks, marker):
    row = far[marker]
    reached = [place for place in range(len(far)) if row[place] is not None]
    return [place for place in reached if told_by_marks(marks, marker, place) != row[place]]


def marks_in_order(far, order):
    marks = [[] for place in range(len(far))]
    for marker in order:
        # All are found ahead of the first mark, so that none is held against the marker's new ones.
        for place in places_to_mark(far, marks, marker):
            marks[place].append((marker, far[marker][place]))
    return marks
