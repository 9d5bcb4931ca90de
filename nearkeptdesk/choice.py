"""Chosen places, those that are near a place, what is told by chosen ones, and choosing by greed.

A choice is a number in which place v counts 2 to the power of v. Nearest is a list that has for each
place its nearest chosen one, None where no way leads to any.
"""

from nearkeptdesk.ways import joined, lesser


def is_chosen(choice, place):
    return (choice >> place) & 1 == 1


def chosen_places(choice, places):
    return [place for place in range(places) if is_chosen(choice, place)]


def nearest_chosen(far, choice, place):
    best = None
    for other in range(len(far)):
        distance = far[place][other]
        if is_chosen(choice, other) and distance is not None:
            if best is None or distance < far[place][best]:
                best = other
    return best


def is_near(far, nearest, place, other):
    # The other one is near the place; that doesn't hold the other way round.
    if far[place][other] is None:
        return False
    if nearest[place] is None:
        return True
    return far[place][other] < far[place][nearest[place]]


def near_places(far, nearest, place):
    return [other for other in range(len(far)) if is_near(far, nearest, place, other)]


def round_by(far, chosen, u, v):
    if chosen is None:
        return None
    return joined(far[u][chosen], 0, far[chosen][v])


def told_by_chosen(far, nearest, u, v):
    if is_near(far, nearest, u, v) or is_near(far, nearest, v, u):
        return far[u][v]
    return lesser(round_by(far, nearest[u], u, v), round_by(far, nearest[v], u, v))


def k_nearest(far, k, place):
    row = far[place]
    reached = [(row[other], other) for other in range(len(far)) if row[other] is not None]
    return [pair[1] for pair in sorted(reached)[:k]]


def in_most_rows(places, rows):
    counts = [len([row for row in rows if place in row]) for place in range(places)]
    return counts.index(max(counts))


def chosen_by_greed(far, k):
    lacking = [k_nearest(far, k, place) for place in range(len(far))]
    choice = 0
    while len(lacking) > 0:
        best = in_most_rows(len(far), lacking)
        choice = choice | (1 << best)
        lacking = [row for row in lacking if best not in row]
    return choice
