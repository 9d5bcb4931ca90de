"""Tables and addresses, and the way that a message takes by them.

A table is a dict: of a place, to which place one goes on to get there. An address is (place, its
nearest chosen one, to which place one goes on from that one), or None where a place has no chosen one.
"""

from nearkeptdesk.choice import is_chosen, is_near
from nearkeptdesk.ways import length_between


def onward(far, base, start, end):
    for beside in range(len(far)):
        length = length_between(base, start, beside)
        if length is not None and length + far[beside][end] == far[start][end]:
            return beside
    return None


def table_of(far, base, choice, nearest, place):
    table = {}
    for other in range(len(far)):
        if other != place and far[place][other] is not None:
            if is_chosen(choice, other) or is_near(far, nearest, other, place):
                table[other] = onward(far, base, place, other)
    return table


def address_of(far, base, nearest, place):
    chosen = nearest[place]
    if chosen is None:
        return None
    if chosen == place:
        return (place, chosen, place)
    return (place, chosen, onward(far, base, chosen, place))


def sent_on(tables, address, here):
    # Whoever has no address is sent nothing, even by those who have that place in their tables:
    # the document has such a message stay with its sender.
    if address is None or here == address[0]:
        return None
    table = tables[here]
    if address[0] in table:
        return table[address[0]]
    if here == address[1]:
        return address[2]
    return table.get(address[1])


def way_of(tables, address, start):
    way = []
    here = start
    while here is not None:
        way.append(here)
        here = sent_on(tables, address, here)
    return way


def how_far(lines, way, goal):
    if way[-1] != goal:
        return None
    total = 0
    for step in range(1, len(way)):
        length = length_between(lines, way[step - 1], way[step])
        if length is None:
            return None
        total += length
    return total
