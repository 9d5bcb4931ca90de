"""Lines, distances along them, and which lines are kept.

A line is (length, lesser place, other place), so that sorted lines are in the document's order.
Distances, called far, are a row for each place with its distance from each place; None stands
where no way leads.
"""


def lesser(one, other):
    if one is None:
        return other
    if other is None:
        return one
    return min(one, other)


def joined(ahead, length, behind):
    if ahead is None or behind is None:
        return None
    return ahead + length + behind


def no_ways(places):
    far = []
    for place in range(places):
        row = [None for other in range(places)]
        row[place] = 0
        far.append(row)
    return far


def with_line(far, line):
    # Lengths are above 0, so no shortest way goes the new line twice: one look at each pair will do.
    rows = []
    for start in far:
        row = []
        for end in range(len(far)):
            forth = joined(start[line[1]], line[0], far[line[2]][end])
            back = joined(start[line[2]], line[0], far[line[1]][end])
            row.append(lesser(start[end], lesser(forth, back)))
        rows.append(row)
    return rows


def distances(places, lines):
    far = no_ways(places)
    for line in lines:
        far = with_line(far, line)
    return far


def joins(line, a, b):
    return line[1] == min(a, b) and line[2] == max(a, b)


def length_between(lines, a, b):
    for line in lines:
        if joins(line, a, b):
            return line[0]
    return None


def kept_lines(places, lines, times):
    far = no_ways(places)
    kept = []
    for line in lines:
        known = far[line[1]][line[2]]
        if known is None or known > times * line[0]:
            kept.append(line)
            far = with_line(far, line)
    return kept
