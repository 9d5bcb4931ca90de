"""Long lists of calls, held against a reckoning that follows the document's words one by one."""

import copy
import heapq
import random
import unittest

from tests.helper import LARGEST, OTHERS, pairs, told

LATER = [call[0] for call in OTHERS[13:] if call[0] != "back"]


def ways_from(roads, places, start):
    """The distances from a place along roads, a dict from two places to a length."""
    far = {}
    waiting = [(0, start)]
    while waiting:
        distance, place = heapq.heappop(waiting)
        if place in far:
            continue
        far[place] = distance
        for other in range(places):
            length = roads.get(frozenset((place, other)))
            if length is not None:
                heapq.heappush(waiting, (distance + length, other))
    return far


def in_order(roads):
    return sorted((length, *sorted(ends)) for ends, length in roads.items())


def told_roads(roads):
    rows = [(a, b, length) for length, a, b in in_order(roads)]
    return [len(rows)] + [number for row in rows for number in row]


class Reckoning:
    def __init__(self):
        self.places = None

    def answer(self, name, *numbers):
        if name == "begin":
            return self.begin(*numbers)
        if self.places is None:
            return [-11]
        if name == "back":
            return self.back()
        if name in LATER:
            return None
        act = getattr(self, name)
        if name in ("lines", "base", "fresh", "dist"):
            return act(*numbers)
        before = copy.deepcopy({key: value for key, value in vars(self).items() if key != "past"})
        number = act(*numbers)
        if number >= 0:
            self.past = (self.past + [before])[-10:]
        return [number]

    def begin(self, n):
        if n not in range(1, 9):
            return [-22]
        self.places, self.roads, self.t, self.row, self.chosen, self.past = n, {}, 1, list(range(n)), [], []
        self.make()
        return [0]

    def back(self):
        if not self.past:
            return [-6]
        vars(self).update(self.past.pop())
        return [len(self.past)]

    def lines(self):
        return told_roads(self.roads)

    def base(self):
        return told_roads(self.kept)

    def fresh(self):
        return [int(self.roads == self.made_of)]

    def dist(self, u, v):
        if max(u, v) >= self.places:
            return [-2]
        return [ways_from(self.roads, self.places, u).get(v, -33)]

    def line(self, a, b, w):
        if max(a, b) >= self.places:
            return -2
        if a == b or not 1 <= w <= 99:
            return -22
        if frozenset((a, b)) not in self.roads and len(self.roads) == 14:
            return -28
        self.roads[frozenset((a, b))] = w
        return len(self.roads)

    def cut(self, i):
        if i >= len(self.roads):
            return -2
        del self.roads[frozenset(in_order(self.roads)[i][1:])]
        return len(self.roads)

    def make(self):
        self.made_of = dict(self.roads)
        self.kept = {}
        for length, a, b in in_order(self.roads):
            distance = ways_from(self.kept, self.places, a).get(b)
            if distance is None or distance > self.t * length:
                self.kept[frozenset((a, b))] = length
        self.far = [ways_from(self.kept, self.places, place) for place in range(self.places)]
        self.nearest = []
        for place in range(self.places):
            reached = [(self.far[place][c], c) for c in self.chosen if c in self.far[place]]
            self.nearest.append(min(reached)[1] if reached else None)
        return len(self.kept)

    def near(self, place):
        far, nearest = self.far[place], self.nearest[place]
        return [other for other in far if nearest is None or far[other] < far[nearest]]

    def table(self, place):
        return [v for v in self.far[place] if v != place and (v in self.chosen or place in self.near(v))]

    def entries(self):
        return sum(len(self.table(place)) for place in range(self.places))

    def times(self, t):
        if t not in range(1, 10):
            return -22
        self.t = t
        return self.make()

    def order(self, row):
        if len(row) != self.places or set(row) != set(range(self.places)):
            return -22
        self.row = list(row)
        self.make()
        marks = {place: {} for place in range(self.places)}
        for marker in self.row:
            before = copy.deepcopy(marks)
            for place, distance in self.far[marker].items():
                both = before[marker].keys() & before[place].keys()
                if distance not in [before[marker][x] + before[place][x] for x in both]:
                    marks[place][marker] = distance
        return sum(len(own) for own in marks.values())

    def choose(self, s):
        if s >= 2 ** self.places:
            return -22
        self.chosen = [place for place in range(self.places) if s // 2 ** place % 2]
        self.make()
        return self.entries()

    def greedy(self, k):
        if k not in range(1, 9):
            return -22
        self.make()
        rows = [sorted(far, key=lambda other: (far[other], other))[:k] for far in self.far]
        chosen = []
        while True:
            lacking = [row for row in rows if not set(row) & set(chosen)]
            if not lacking:
                break
            chosen.append(max(range(self.places), key=lambda p: (sum(p in row for row in lacking), -p)))
        return self.choose(sum(2 ** place for place in chosen))

    def onward(self, start, end):
        for beside in range(self.places):
            length = self.kept.get(frozenset((start, beside)))
            if length is not None and length + self.far[beside].get(end, LARGEST) == self.far[start][end]:
                return beside
        raise AssertionError("no way leads there")

    def route(self, u, v):
        chosen, way = self.nearest[v], [u]
        while chosen is not None and way[-1] != v:
            here = way[-1]
            known = self.table(here)
            if v in known:
                way.append(self.onward(here, v))
            elif here == chosen:
                way.append(self.onward(chosen, v))
            elif chosen in known:
                way.append(self.onward(here, chosen))
            else:
                break
        return way

    def send(self, u, v):
        if max(u, v) >= self.places:
            return -2
        if u == v:
            return -22
        way = self.route(u, v)
        return int(way[-1] == v and all(frozenset(step) in self.roads for step in zip(way, way[1:])))

    def all_sent(self):
        return self.places * (self.places - 1)


def some_number(source, most):
    """Mostly a number that fits, at times one just beyond or far beyond."""
    return source.choice([LARGEST, most + 1, most + 2, 0]) if source.random() < 0.06 else source.randint(0, most)


def some_call(source, places):
    name = source.choice(["line"] * 8 + ["send"] * 5 + ["cut"] * 2 + ["dist"] * 2 + [call[0] for call in OTHERS])
    place = lambda: some_number(source, places - 1)
    if name == "line":
        return (name, place(), place(), some_number(source, source.choice([3, 20, 99])))
    if name == "cut":
        return (name, some_number(source, 13) if source.random() < 0.3 else 0)
    if name == "order":
        row = source.sample(range(places), places)
        return (name, row if source.random() < 0.8 else (row + [source.randint(0, 65535)])[source.randint(0, 1):])
    if name in ("times", "greedy"):
        return (name, some_number(source, 9))
    if name == "choose":
        return (name, some_number(source, 2 ** places - 1))
    given = next(call for call in OTHERS if call[0] == name)
    return (name, *[place() for number in given[1:]])


class ReckonedTest(unittest.TestCase):
    def held(self, calls):
        reckoning = Reckoning()
        rows = told(*calls)
        for at, call in enumerate(calls):
            expected = reckoning.answer(*call)
            if expected is not None:
                self.assertEqual(rows[at], expected, calls[:at + 1])

    def test_any_calls(self):
        for seed in range(120):
            source = random.Random(seed)
            places = source.choice([1, 2, 3, 4, 5, 6, 7, 8, 8])
            calls = [some_call(source, places) for again in range(source.choice([0, 2]))] + [("begin", places)]
            calls += [some_call(source, places) for again in range(source.randint(10, 200))]
            calls += [("lines",), ("base",), ("fresh",)]
            self.held(calls)

    def test_lands_made_just_now(self):
        for seed in range(60):
            source = random.Random(1000 + seed)
            places = source.randint(2, 8)
            calls = [("begin", places)]
            for again in range(source.randint(1, 14)):
                a, b = source.sample(range(places), 2)
                calls.append(("line", a, b, source.randint(1, source.choice([3, 30, 99]))))
            calls += [("times", source.randint(1, 9)), ("order", source.sample(range(places), places))]
            calls.append(source.choice([("greedy", source.randint(1, 8)), ("choose", source.randrange(2 ** places))]))
            calls += [("base",)] + [("send", u, v) for u, v in pairs(places)]
            self.held(calls)


class HoldsTest(unittest.TestCase):
    def land(self, source, places):
        roads = {}
        for again in range(source.randint(0, 14)):
            roads[frozenset(source.sample(range(places), 2))] = source.randint(1, source.choice([2, 9, 99]))
        laid = [("line", *ends, length) for ends, length in roads.items()]
        return roads, [("begin", places)] + laid

    def test_what_is_kept_is_at_most_t_times_as_long(self):
        for seed in range(80):
            source = random.Random(2000 + seed)
            places, t = source.randint(2, 8), source.randint(1, 9)
            roads, laid = self.land(source, places)
            base = told(*laid, ("times", t), ("base",))[-1]
            kept = {frozenset(base[at:at + 2]): base[at + 2] for at in range(1, len(base), 3)}
            for place in range(places):
                least = ways_from(roads, places, place)
                most = ways_from(kept, places, place)
                self.assertEqual(sorted(least), sorted(most))
                self.assertTrue(all(least[x] <= most[x] <= t * least[x] for x in least))

    def test_each_message_comes_that_can(self):
        for seed in range(60):
            source = random.Random(3000 + seed)
            places = source.randint(2, 8)
            laid = self.land(source, places)[1] + [("times", source.randint(1, 9)), ("greedy", source.randint(1, 8))]
            for u, v in pairs(places):
                if u < v:
                    rows = told(*laid, ("dist", u, v), ("send", u, v), ("send", v, u))
                    comes = [0] if rows[-3] == [-33] else [1]
                    self.assertEqual(rows[-2:], [comes, comes])
