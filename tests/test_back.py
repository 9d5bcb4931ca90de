import unittest

from tests.helper import firsts, last, looks, told

LAID = [("begin", 3), ("line", 0, 1, 5), ("line", 1, 2, 7), ("greedy", 2)]
CHANGES = [
    ("line", 0, 2, 9), ("line", 1, 0, 50), ("cut", 0), ("times", 3), ("order", [2, 0, 1]), ("choose", 0),
    ("choose", 5), ("greedy", 1), ("make",), ("send", 0, 2), ("all_sent",),
]


def seen():
    sends = [("send", u, v) for u in range(3) for v in range(3) if u != v]
    return looks(3) + sends + [("make",), ("order", [0, 1, 2])] + looks(3)


class BackTest(unittest.TestCase):
    def test_no_change(self):
        self.assertEqual(told(("begin", 3), ("back",), ("lines",), ("back",)), [[0], [-6], [0], [-6]])

    def test_all_is_as_it_was(self):
        for before in (LAID, LAID + [("cut", 0)], LAID + [("line", 1, 0, 2)]):
            for change in CHANGES:
                rows = told(*before, change, ("back",), *seen())
                self.assertEqual(rows[len(before) + 1], [len(before) - 1])
                self.assertEqual(rows[len(before) + 2:], told(*before, *seen())[len(before):])

    def test_t_the_order_and_the_choice_are_as_they_were(self):
        square = [("begin", 3), ("line", 0, 1, 4), ("line", 1, 2, 4), ("line", 0, 2, 5)]
        self.assertEqual(firsts(*square, ("times", 2), ("back",), ("make",))[-3:], [2, 3, 3])
        self.assertEqual(last(*LAID, ("choose", 0), ("back",), ("send", 0, 2)), [1])

    def test_the_last_ten(self):
        changes = [("line", 0, 1, w) for w in range(1, 13)]
        rows = told(("begin", 2), *changes, *[("back",), ("dist", 0, 1)] * 11)
        backs = rows[13::2]
        self.assertEqual(backs, [[9], [8], [7], [6], [5], [4], [3], [2], [1], [0], [-6]])
        self.assertEqual(rows[14::2], [[11], [10], [9], [8], [7], [6], [5], [4], [3], [2], [2]])

    def test_what_is_refused_is_no_change(self):
        calls = [("line", 0, 0, 1), ("cut", 5), ("times", 0), ("order", []), ("choose", 8), ("greedy", 0)]
        calls += [("send", 1, 1), ("send", 0, 3), ("begin", 0)]
        self.assertEqual(firsts(("begin", 3), ("make",), *calls, ("back",), ("back",))[-2:], [0, -6])

    def test_taken_back_it_goes_on_from_there(self):
        calls = [("begin", 2), ("line", 0, 1, 5), ("make",), ("back",), ("back",), ("line", 0, 1, 6)]
        rows = told(*calls, ("back",), ("back",), ("lines",))
        self.assertEqual(rows[3:], [[1], [0], [1], [0], [-6], [0]])
