"""What the document says that holds, a to e, over lands that are drawn."""

import random
import unittest

from tests.helper import looks, pairs, told


def some_land(source, places):
    """A begin and up to fourteen lines; in some lands all hangs together, others are in pieces."""
    calls = [("begin", places)]
    for again in range(source.randint(0, 14) if places > 1 else 0):
        a, b = source.sample(range(places), 2)
        calls.append(("line", a, b, source.randint(1, source.choice([2, 9, 99]))))
    return calls


def some_change(source, places):
    a, b = source.sample(range(places), 2)
    return source.choice([
        ("line", a, b, source.randint(1, 99)), ("line", a, b, source.randint(1, 9)), ("cut", 0), ("cut", 1),
        ("times", source.randint(1, 9)), ("order", source.sample(range(places), places)),
        ("choose", source.randrange(2 ** places)), ("greedy", source.randint(1, 8)), ("make",), ("send", a, b),
        ("all_sent",),
    ])


def compared(calls):
    """What compare tells of each two places, with None where there isn't any."""
    both = pairs(calls[0][1])
    rows = told(*calls, *[("compare", u, v) for u, v in both])[len(calls):]
    return {pair: [None if x == -1 else x for x in row[1:]] for pair, row in zip(both, rows)}


class MadeJustNowTest(unittest.TestCase):
    def lands(self, seed, last_calls):
        for again in range(80):
            source = random.Random(seed + again)
            places = source.randint(1, 8)
            t = source.randint(1, 9)
            calls = some_land(source, places) + [("times", t), ("order", source.sample(range(places), places))]
            yield t, compared(calls + [last_calls(source, places)])

    def test_a_what_is_told(self):
        choose = lambda source, places: ("choose", source.randrange(2 ** places))
        for t, told_of in self.lands(2000, choose):
            for land, base, marks, chosen, message in told_of.values():
                self.assertEqual(marks, base)
                if land is None:
                    self.assertEqual([base, marks, chosen], [None] * 3)
                else:
                    self.assertTrue(land <= base <= t * land)
                    self.assertTrue(base <= chosen <= 3 * base)

    def test_b_messages_where_each_place_has_a_chosen_one(self):
        greed = lambda source, places: ("greedy", source.randint(1, 8))
        for t, told_of in self.lands(3000, greed):
            for land, base, marks, chosen, message in told_of.values():
                if land is None:
                    self.assertIsNone(message)
                else:
                    self.assertTrue(land <= message <= 3 * t * land)


class WhateverChangesTest(unittest.TestCase):
    def lists(self, seed, most):
        for again in range(60):
            source = random.Random(seed + again)
            places = source.randint(2, 8)
            calls = some_land(source, places)
            yield source, places, calls + [some_change(source, places) for time in range(source.randint(1, most))]

    def test_c_marks_and_messages(self):
        for source, places, calls in self.lists(4000, 40):
            for land, base, marks, chosen, message in compared(calls).values():
                self.assertEqual(marks, base)
                if message is not None:
                    self.assertIsNotNone(land)
                    self.assertGreaterEqual(message, land)

    def test_d_messages_lost(self):
        for source, places, calls in self.lists(5000, 60):
            rows = told(*[part for call in calls for part in (call, ("count",))])
            for sent, lost, gone in rows[1::2]:
                self.assertTrue(0 <= lost <= sent)
                # Whatever comes goes a line at least.
                self.assertTrue(gone >= sent - lost)

    def test_e_taken_back(self):
        for source, places, calls in self.lists(6000, 20):
            before = told(*calls, *looks(places))[len(calls):]
            change = some_change(source, places)
            rows = told(*calls, change, ("back",), *looks(places))[len(calls):]
            if rows[0][0] < 0:
                # Nothing was changed: what is taken back is the change before, and all can be seen without that.
                self.assertEqual(told(*calls, change, *looks(places))[len(calls) + 1:], before)
                continue
            at = looks(places).index(("state",))
            behind = rows[2:]
            self.assertEqual(behind[at][4], rows[1][0])
            # The eleventh change from the last is forgotten, even if the last is taken back.
            self.assertEqual(behind[at][4], min(before[at][4], 9))
            self.assertEqual(behind[:at] + [behind[at][:4]] + behind[at + 1:],
                             before[:at] + [before[at][:4]] + before[at + 1:])

    def test_e_looking(self):
        for source, places, calls in self.lists(7000, 20):
            rows = told(*calls, *looks(places), *looks(places))[len(calls):]
            self.assertEqual(rows[:len(rows) // 2], rows[len(rows) // 2:])
