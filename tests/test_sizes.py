"""How large it all is, which messages were sent, and how things stand."""

import unittest

from tests.helper import LARGEST, last, told

ROW = [("begin", 3), ("line", 0, 1, 5), ("line", 1, 2, 7)]
FIVE = [("begin", 5)] + [("line", place, place + 1, 1) for place in range(4)]
PIECES = [("begin", 4), ("line", 0, 1, 5), ("line", 2, 3, 5)]


class SizesTest(unittest.TestCase):
    def test_nobody_chosen(self):
        # Each has all three near, itself too.
        self.assertEqual(last(*ROW, ("make",), ("sizes",)), [4, 2, 6, 9, 6])
        self.assertEqual(last(("begin", 1), ("sizes",)), [4, 0, 1, 1, 0])

    def test_all_chosen(self):
        # Nobody has anyone near; three are chosen for each of three.
        self.assertEqual(last(*ROW, ("choose", 7), ("sizes",)), [4, 2, 6, 9, 6])
        self.assertEqual(last(("begin", 8), ("choose", 255), ("sizes",)), [4, 0, 8, 64, 0])
        self.assertEqual(last(("begin", 1), ("choose", 1), ("sizes",)), [4, 0, 1, 1, 0])

    def test_some_chosen(self):
        # 1 has itself near, 2 itself and 1; one is chosen for each of three.
        self.assertEqual(last(*ROW, ("choose", 1), ("sizes",)), [4, 2, 6, 6, 3])
        self.assertEqual(last(*ROW, ("choose", 2), ("sizes",)), [4, 2, 6, 5, 2])
        # Near are 4, 4, 3, 1 and 0; 4 knows nobody, the others 4, and whom they are near.
        self.assertEqual(last(*FIVE, ("choose", 16), ("sizes",)), [4, 4, 15, 17, 12])

    def test_a_land_in_two_pieces(self):
        self.assertEqual(last(*PIECES, ("make",), ("sizes",)), [4, 2, 6, 8, 4])
        # Those chosen count for the places of the other piece, too.
        self.assertEqual(last(*PIECES, ("choose", 1), ("sizes",)), [4, 2, 6, 9, 3])
        self.assertEqual(last(*PIECES, ("choose", 15), ("sizes",)), [4, 2, 6, 16, 4])

    def test_they_are_what_the_changes_tell(self):
        calls = [*FIVE, ("greedy", 2), ("order", [4, 2, 0, 1, 3]), ("times", 3), ("choose", 9)]
        rows = told(*calls, ("sizes",))
        self.assertEqual([rows[-1][1], rows[-1][2], rows[-1][4]], [rows[7][0], rows[6][0], rows[8][0]])

    def test_they_change_only_when_all_is_made(self):
        made = [*ROW, ("choose", 1)]
        for change in (("cut", 0), ("line", 0, 2, 1), ("line", 0, 1, 9), ("send", 0, 1), ("all_sent",)):
            self.assertEqual(last(*made, change, ("sizes",)), [4, 2, 6, 6, 3])
        self.assertEqual(last(*made, ("cut", 0), ("make",), ("sizes",)), [4, 1, 4, 7, 2])
        self.assertEqual(last(*ROW, ("sizes",)), [4, 0, 3, 3, 0])


class CountTest(unittest.TestCase):
    CHOSEN = [*ROW, ("choose", 1)]

    def counted(self, *calls):
        return last(*calls, ("count",))

    def test_none_sent(self):
        self.assertEqual(self.counted(("begin", 3)), [0, 0, 0])
        self.assertEqual(self.counted(*self.CHOSEN), [0, 0, 0])

    def test_sent(self):
        self.assertEqual(self.counted(*self.CHOSEN, ("send", 0, 2), ("send", 1, 0)), [2, 0, 17])

    def test_all(self):
        self.assertEqual(self.counted(*self.CHOSEN, ("all_sent",)), [6, 0, 48])
        self.assertEqual(self.counted(("begin", 1), ("all_sent",)), [0, 0, 0])
        self.assertEqual(self.counted(("begin", 8), ("all_sent",), ("all_sent",)), [112, 112, 0])

    def test_lost(self):
        self.assertEqual(self.counted(*self.CHOSEN, ("cut", 0), ("send", 0, 2), ("send", 1, 2)), [2, 1, 7])
        self.assertEqual(self.counted(*PIECES, ("choose", 1), ("all_sent",), ("send", 2, 3)), [13, 11, 10])
        self.assertEqual(self.counted(*ROW, ("make",), ("all_sent",)), [6, 6, 0])

    def test_a_line_lengthened(self):
        calls = [*self.CHOSEN, ("send", 0, 2), ("line", 0, 1, 50), ("send", 0, 2)]
        self.assertEqual(self.counted(*calls), [2, 0, 69])

    def test_what_was_told_stays(self):
        # What becomes of the land later doesn't touch messages that were sent.
        sent = [*self.CHOSEN, ("send", 0, 2)]
        changes = [("line", 0, 1, 9), ("cut", 0), ("times", 2), ("order", [2, 1, 0]), ("choose", 0), ("greedy", 2)]
        for change in changes + [("make",)]:
            self.assertEqual(self.counted(*sent, change), [1, 0, 12])

    def test_refused_ones_are_not_sent(self):
        for call in (("send", 1, 1), ("send", 0, 3), ("send", LARGEST, 0)):
            self.assertEqual(self.counted(*self.CHOSEN, call), [0, 0, 0])

    def test_looks_are_not_sent(self):
        looks = [("comes", 0, 2), ("length", 0, 2), ("route", 0, 2), ("compare", 0, 2), ("count",)]
        self.assertEqual(self.counted(*self.CHOSEN, *looks), [0, 0, 0])

    def test_taken_back(self):
        sent = [*self.CHOSEN, ("send", 0, 2), ("cut", 0), ("all_sent",)]
        rows = told(*sent, *[("count",), ("back",)] * 4)
        self.assertEqual(rows[-8::2], [[7, 4, 26], [1, 0, 12], [1, 0, 12], [0, 0, 0]])

    def test_a_second_begin(self):
        self.assertEqual(self.counted(*self.CHOSEN, ("all_sent",), ("begin", 3)), [0, 0, 0])
        self.assertEqual(self.counted(*self.CHOSEN, ("all_sent",), ("begin", 9)), [6, 0, 48])


class StateTest(unittest.TestCase):
    def test_at_the_beginning(self):
        for places in range(1, 9):
            self.assertEqual(last(("begin", places), ("state",)), [places, 0, 1, 0, 0])

    def test_behind_each_kind_of_change(self):
        calls = [
            ("begin", 3), ("line", 0, 1, 5), ("line", 1, 2, 7), ("line", 0, 1, 6), ("cut", 0), ("times", 9),
            ("order", [2, 1, 0]), ("choose", 6), ("greedy", 1), ("make",),
        ]
        stands = [
            [3, 0, 1, 0, 0], [3, 1, 1, 0, 1], [3, 2, 1, 0, 2], [3, 2, 1, 0, 3], [3, 1, 1, 0, 4], [3, 1, 9, 0, 5],
            [3, 1, 9, 0, 6], [3, 1, 9, 6, 7], [3, 1, 9, 7, 8], [3, 1, 9, 7, 9],
        ]
        rows = told(*[part for call in calls for part in (call, ("state",))])
        self.assertEqual(rows[1::2], stands)

    def test_behind_messages(self):
        rows = told(*ROW, ("send", 0, 1), ("state",), ("all_sent",), ("state",))
        self.assertEqual(rows[4::2], [[3, 2, 1, 0, 3], [3, 2, 1, 0, 4]])

    def test_behind_what_is_refused(self):
        refused = [
            ("line", 0, 0, 5), ("line", 0, 3, 5), ("cut", 2), ("times", 10), ("order", [0]), ("choose", 8),
            ("greedy", 0), ("send", 0, 0), ("send", 3, 0), ("begin", 0), ("dist", 0, 3),
        ]
        for call in refused:
            self.assertEqual(last(*ROW, call, ("state",)), [3, 2, 1, 0, 2])

    def test_behind_back(self):
        calls = [*ROW, ("times", 4), ("choose", 5)] + [("back",), ("state",)] * 5
        stands = [[3, 2, 4, 0, 3], [3, 2, 1, 0, 2], [3, 1, 1, 0, 1], [3, 0, 1, 0, 0], [3, 0, 1, 0, 0]]
        self.assertEqual(told(*calls)[6::2], stands)

    def test_ten_changes_and_more(self):
        rows = told(("begin", 2), *[("make",), ("state",)] * 13)
        self.assertEqual([row[4] for row in rows[2::2]], [1, 2, 3, 4, 5, 6, 7, 8, 9, 10, 10, 10, 10])
        self.assertEqual(told(("begin", 2), *[("make",)] * 13, ("back",), ("state",))[-2:], [[9], [2, 0, 1, 0, 9]])

    def test_fourteen_lines_and_all_chosen(self):
        laid = [("line", 0, v, 9) for v in range(1, 8)] + [("line", v, v % 7 + 1, 9) for v in range(1, 8)]
        self.assertEqual(last(("begin", 8), *laid, ("choose", 255), ("state",)), [8, 14, 1, 255, 10])

    def test_a_second_begin(self):
        self.assertEqual(last(*ROW, ("times", 3), ("choose", 1), ("begin", 5), ("state",)), [5, 0, 1, 0, 0])
