"""Long lists of calls, held against a reckoning that follows the document's words one by one."""

import copy
import heapq
import random
import unittest

from tests.helper import LARGEST, OTHERS, looks, pairs, told

LOOKS = [call[0] for call in OTHERS[9:] if call[0] != "back"]


def ways_from(roads, places, start):
    """The distances from a place along roads, a dict from two places to a length."""
    far = {}
    waiting = [(0, start)]
    while waiting:
        distance, place = heapq.heappop(waiting)
        if place in far:
            continue
        far[place] = distance
        for other in range(places):
            length = roads.get(frozenset((place, other)))
            if length is not None:
                heapq.heappush(waiting, (distance + length, other))
    return far


def in_order(roads):
    return sorted((length, *sorted(ends)) for ends, length in roads.items())


def told_roads(roads):
    rows = [(a, b, length) for length, a, b in in_order(roads)]
    return [len(rows)] + [number for row in rows for number in row]


class Reckoning:
    def __init__(self):
        self.places = None

    def answer(self, name, *numbers):
        if name == "begin":
            return self.begin(*numbers)
        if self.places is None:
            return [-11]
        if name == "back":
            return self.back()
        act = getattr(self, name)
        if name in LOOKS:
            return [-2] if any(number >= self.places for number in numbers) else act(*numbers)
        before = copy.deepcopy({key: value for key, value in vars(self).items() if key != "past"})
        number = act(*numbers)
        if number >= 0:
            self.past = (self.past + [before])[-10:]
        return [number]

    def begin(self, n):
        if n not in range(1, 9):
            return [-22]
        self.places, self.roads, self.t, self.row, self.choice, self.past = n, {}, 1, list(range(n)), [], []
        self.sent = []
        self.make()
        return [0]

    def back(self):
        if not self.past:
            return [-6]
        vars(self).update(self.past.pop())
        return [len(self.past)]

    def lines(self):
        return told_roads(self.roads)

    def base(self):
        return told_roads(self.base_roads)

    def fresh(self):
        return [int(self.roads == self.made_of)]

    def dist(self, u, v):
        return [ways_from(self.roads, self.places, u).get(v, -33)]

    def kept(self, u, v):
        return [self.far[u].get(v, -33)]

    def marks(self, v):
        own = self.marked[v]
        return [len(own)] + [number for mark in own.items() for number in mark]

    def bymarks(self, u, v):
        both = self.marked[u].keys() & self.marked[v].keys()
        return [min([self.marked[u][x] + self.marked[v][x] for x in both], default=-33)]

    def chosen(self):
        return [len(self.choice)] + sorted(self.choice)

    def bychosen(self, u, v):
        if v in self.near(u) or u in self.near(v):
            return [self.far[u][v]]
        seen = [c for c in (self.nearest[u], self.nearest[v]) if c in self.far[u] and c in self.far[v]]
        return [min([self.far[u][c] + self.far[v][c] for c in seen], default=-33)]

    def route(self, u, v):
        way = self.way(u, v)
        return [len(way)] + way

    def comes(self, u, v):
        return [int(self.goes(u, v) is not None)]

    def length(self, u, v):
        distance = self.goes(u, v)
        return [-33 if distance is None else distance]

    def sizes(self):
        near = sum(len(self.near(place)) + len(self.choice) for place in range(self.places))
        return [4, len(self.base_roads), sum(len(own) for own in self.marked), near, self.entries()]

    def compare(self, u, v):
        told_of = [call(u, v)[0] for call in (self.dist, self.kept, self.bymarks, self.bychosen, self.length)]
        return [0] + [-1 if number == -33 else number for number in told_of]

    def count(self):
        came = [distance for distance in self.sent if distance is not None]
        return [len(self.sent), len(self.sent) - len(came), sum(came)]

    def state(self):
        return [self.places, len(self.roads), self.t, sum(2 ** place for place in self.choice), len(self.past)]

    def line(self, a, b, w):
        if max(a, b) >= self.places:
            return -2
        if a == b or not 1 <= w <= 99:
            return -22
        if frozenset((a, b)) not in self.roads and len(self.roads) == 14:
            return -28
        self.roads[frozenset((a, b))] = w
        return len(self.roads)

    def cut(self, i):
        if i >= len(self.roads):
            return -2
        del self.roads[frozenset(in_order(self.roads)[i][1:])]
        return len(self.roads)

    def make(self):
        self.made_of = dict(self.roads)
        self.base_roads = {}
        for length, a, b in in_order(self.roads):
            distance = ways_from(self.base_roads, self.places, a).get(b)
            if distance is None or distance > self.t * length:
                self.base_roads[frozenset((a, b))] = length
        self.far = [ways_from(self.base_roads, self.places, place) for place in range(self.places)]
        self.nearest = []
        for place in range(self.places):
            reached = [(self.far[place][c], c) for c in self.choice if c in self.far[place]]
            self.nearest.append(min(reached)[1] if reached else None)
        self.mark_all()
        return len(self.base_roads)

    def mark_all(self):
        self.marked = [{} for place in range(self.places)]
        for marker in self.row:
            before = copy.deepcopy(self.marked)
            for place, distance in self.far[marker].items():
                both = before[marker].keys() & before[place].keys()
                if distance not in [before[marker][x] + before[place][x] for x in both]:
                    self.marked[place][marker] = distance

    def near(self, place):
        far, nearest = self.far[place], self.nearest[place]
        return [other for other in far if nearest is None or far[other] < far[nearest]]

    def table(self, place):
        return [v for v in self.far[place] if v != place and (v in self.choice or place in self.near(v))]

    def entries(self):
        return sum(len(self.table(place)) for place in range(self.places))

    def times(self, t):
        if t not in range(1, 10):
            return -22
        self.t = t
        return self.make()

    def order(self, row):
        if len(row) != self.places or set(row) != set(range(self.places)):
            return -22
        self.row = list(row)
        self.make()
        return sum(len(own) for own in self.marked)

    def choose(self, s):
        if s >= 2 ** self.places:
            return -22
        self.choice = [place for place in range(self.places) if s // 2 ** place % 2]
        self.make()
        return self.entries()

    def greedy(self, k):
        if k not in range(1, 9):
            return -22
        self.make()
        rows = [sorted(far, key=lambda other: (far[other], other))[:k] for far in self.far]
        chosen = []
        while True:
            lacking = [row for row in rows if not set(row) & set(chosen)]
            if not lacking:
                break
            chosen.append(max(range(self.places), key=lambda p: (sum(p in row for row in lacking), -p)))
        return self.choose(sum(2 ** place for place in chosen))

    def onward(self, start, end):
        for beside in range(self.places):
            length = self.base_roads.get(frozenset((start, beside)))
            if length is not None and length + self.far[beside].get(end, LARGEST) == self.far[start][end]:
                return beside
        raise AssertionError("no way leads there")

    def way(self, u, v):
        chosen, way = self.nearest[v], [u]
        while chosen is not None and way[-1] != v:
            here = way[-1]
            known = self.table(here)
            if v in known:
                way.append(self.onward(here, v))
            elif here == chosen:
                way.append(self.onward(chosen, v))
            elif chosen in known:
                way.append(self.onward(here, chosen))
            else:
                break
        return way

    def send(self, u, v):
        if max(u, v) >= self.places:
            return -2
        if u == v:
            return -22
        self.sent.append(self.goes(u, v))
        return int(self.sent[-1] is not None)

    def goes(self, u, v):
        way = self.way(u, v)
        lengths = [self.roads.get(frozenset(step)) for step in zip(way, way[1:])]
        return sum(lengths) if way[-1] == v and None not in lengths else None

    def all_sent(self):
        sent = [self.send(u, v) for u, v in pairs(self.places) if u != v]
        return len(sent)


def some_number(source, most):
    """Mostly a number that fits, at times one just beyond or far beyond."""
    return source.choice([LARGEST, most + 1, most + 2, 0]) if source.random() < 0.06 else source.randint(0, most)


def some_call(source, places):
    name = source.choice(["line"] * 8 + ["send"] * 5 + ["cut"] * 2 + ["dist"] * 2 + [call[0] for call in OTHERS])
    place = lambda: some_number(source, places - 1)
    if name == "line":
        return (name, place(), place(), some_number(source, source.choice([3, 20, 99])))
    if name == "cut":
        return (name, some_number(source, 13) if source.random() < 0.3 else 0)
    if name == "order":
        row = source.sample(range(places), places)
        return (name, row if source.random() < 0.8 else (row + [source.randint(0, 65535)])[source.randint(0, 1):])
    if name in ("times", "greedy"):
        return (name, some_number(source, 9))
    if name == "choose":
        return (name, some_number(source, 2 ** places - 1))
    given = next(call for call in OTHERS if call[0] == name)
    return (name, *[place() for number in given[1:]])


class ReckonedTest(unittest.TestCase):
    def held(self, calls):
        reckoning = Reckoning()
        rows = told(*calls)
        for at, call in enumerate(calls):
            self.assertEqual(rows[at], reckoning.answer(*call), calls[:at + 1])

    def test_any_calls(self):
        for seed in range(120):
            source = random.Random(seed)
            places = source.choice([1, 2, 3, 4, 5, 6, 7, 8, 8])
            calls = [some_call(source, places) for again in range(source.choice([0, 2]))] + [("begin", places)]
            calls += [some_call(source, places) for again in range(source.randint(10, 200))]
            self.held(calls)
            self.held(calls[:150] + looks(places))

    def test_lands_made_just_now(self):
        for seed in range(60):
            source = random.Random(1000 + seed)
            places = source.randint(2, 8)
            calls = [("begin", places)]
            for again in range(source.randint(1, 14)):
                a, b = source.sample(range(places), 2)
                calls.append(("line", a, b, source.randint(1, source.choice([3, 30, 99]))))
            calls += [("times", source.randint(1, 9)), ("order", source.sample(range(places), places))]
            calls.append(source.choice([("greedy", source.randint(1, 8)), ("choose", source.randrange(2 ** places))]))
            self.held(calls + looks(places))
            self.held(calls + [("send", u, v) for u, v in pairs(places)] + [("count",)])
            # Another line, then one gone: what was made stays, and the land is another one.
            calls += [("line", 0, 1, source.randint(1, 99)), ("cut", 0)]
            self.held(calls + looks(places) + [("all_sent",), ("count",)])
            for name in ("bymarks", "bychosen", "route", "comes", "length"):
                self.held(calls + [(name, u, v) for u, v in pairs(places)])
