import unittest

from tests.helper import LARGEST, OTHERS, firsts, last, looks, told

LAID = [("begin", 3), ("line", 0, 1, 5), ("line", 1, 2, 7), ("greedy", 2)]
CHANGES = [
    ("line", 0, 2, 9), ("line", 1, 0, 50), ("cut", 0), ("times", 3), ("order", [2, 0, 1]), ("choose", 0),
    ("choose", 5), ("greedy", 1), ("make",), ("send", 0, 2), ("all_sent",),
]


def seen():
    return looks(3) + [("make",)] + looks(3) + [("all_sent",), ("count",)]


class BackTest(unittest.TestCase):
    def test_no_change(self):
        self.assertEqual(told(("begin", 3), ("back",), ("lines",), ("back",)), [[0], [-6], [0], [-6]])

    def test_all_is_as_it_was(self):
        for before in (LAID, LAID + [("cut", 0)], LAID + [("line", 1, 0, 2)]):
            for change in CHANGES:
                rows = told(*before, change, ("back",), *seen())
                self.assertEqual(rows[len(before) + 1], [len(before) - 1])
                self.assertEqual(rows[len(before) + 2:], told(*before, *seen())[len(before):])

    def test_t_the_order_and_the_choice_are_as_they_were(self):
        square = [("begin", 3), ("line", 0, 1, 4), ("line", 1, 2, 4), ("line", 0, 2, 5)]
        self.assertEqual(firsts(*square, ("times", 2), ("back",), ("make",))[-3:], [2, 3, 3])
        self.assertEqual(last(*LAID, ("choose", 0), ("back",), ("send", 0, 2)), [1])

    def test_the_last_ten(self):
        changes = [("line", 0, 1, w) for w in range(1, 13)]
        rows = told(("begin", 2), *changes, *[("back",), ("dist", 0, 1)] * 11)
        backs = rows[13::2]
        self.assertEqual(backs, [[9], [8], [7], [6], [5], [4], [3], [2], [1], [0], [-6]])
        self.assertEqual(rows[14::2], [[11], [10], [9], [8], [7], [6], [5], [4], [3], [2], [2]])

    def test_ten_taken_back_all_is_as_it_was(self):
        state = looks(3).index(("state",))
        for row in (CHANGES[:10], CHANGES[1:], CHANGES[::-1][:10]):
            before = told(*LAID, *looks(3))[len(LAID):]
            rows = told(*LAID, *row, *[("back",)] * 10, *looks(3))[len(LAID):]
            self.assertEqual(rows[10:20], [[left] for left in range(9, -1, -1)])
            # Only how many can be taken back differs: those ahead of the ten are forgotten.
            before[state][4] = 0
            self.assertEqual(rows[20:], before)

    def test_one_by_one(self):
        seen_each_time = looks(3)
        size = len(seen_each_time) + 1
        calls = list(LAID)
        for change in CHANGES[:5]:
            calls += [*seen_each_time, change]
        middle = len(calls)
        calls += [("back",), *seen_each_time] * 5
        rows = told(*calls)
        forth = [rows[at:at + size - 1] for at in range(len(LAID), middle, size)]
        back = [rows[at + 1:at + size] for at in range(middle, len(rows), size)]
        self.assertEqual(back, forth[::-1])

    def test_messages_taken_back(self):
        sent = [*LAID, ("send", 0, 2), ("all_sent",), ("send", 2, 1)]
        rows = told(*sent, *[("count",), ("back",)] * 4)
        counts = rows[len(sent)::2]
        self.assertEqual([row[0] for row in counts], [8, 7, 1, 0])
        self.assertEqual(counts[-1], [0, 0, 0])
        self.assertEqual(rows[len(sent) + 1::2], [[5], [4], [3], [2]])

    def test_behind_a_second_begin(self):
        self.assertEqual(told(*LAID, ("begin", 3), ("back",), ("state",))[-2:], [[-6], [3, 0, 1, 0, 0]])
        rows = told(*LAID, ("begin", 2), ("make",), ("back",), ("back",), ("state",))
        self.assertEqual(rows[-3:], [[0], [-6], [2, 0, 1, 0, 0]])

    def test_behind_a_refused_begin(self):
        for places in (0, 9, LARGEST):
            self.assertEqual(told(*LAID, ("begin", places), ("back",), ("state",))[-2:], [[2], [3, 2, 1, 0, 2]])

    def test_looks_are_no_change(self):
        for call in OTHERS[9:]:
            if call[0] != "back":
                self.assertEqual(firsts(*LAID, call, ("back",))[-1], 2)

    def test_with_none_nothing_changes(self):
        self.assertEqual(told(("begin", 3), ("back",), *looks(3))[2:], told(("begin", 3), *looks(3))[1:])

    def test_what_is_refused_is_no_change(self):
        calls = [("line", 0, 0, 1), ("cut", 5), ("times", 0), ("order", []), ("choose", 8), ("greedy", 0)]
        calls += [("send", 1, 1), ("send", 0, 3), ("begin", 0)]
        self.assertEqual(firsts(("begin", 3), ("make",), *calls, ("back",), ("back",))[-2:], [0, -6])

    def test_taken_back_it_goes_on_from_there(self):
        calls = [("begin", 2), ("line", 0, 1, 5), ("make",), ("back",), ("back",), ("line", 0, 1, 6)]
        rows = told(*calls, ("back",), ("back",), ("lines",))
        self.assertEqual(rows[3:], [[1], [0], [1], [0], [-6], [0]])
