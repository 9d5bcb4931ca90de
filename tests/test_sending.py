import unittest

from nearkeptdesk.signposts import how_far, way_of
from tests.helper import LARGEST, desk_behind, firsts, last, nothing_changed, pairs, told

ROW = [("begin", 3), ("line", 0, 1, 5), ("line", 1, 2, 7), ("choose", 1)]
# A ring of four; for t of 3 the base hasn't the line from 2 to 3.
RING = [
    ("begin", 4), ("line", 0, 1, 1), ("line", 1, 2, 1), ("line", 2, 3, 1), ("line", 0, 3, 1),
    ("times", 3), ("choose", 1),
]
PIECES = [("begin", 4), ("line", 0, 1, 5), ("line", 2, 3, 5)]


def way(desk, u, v):
    return way_of(desk.made.tables, desk.made.addresses[v], u)


def who_comes(*calls):
    """The pairs whose message comes."""
    return [pair for pair in pairs(calls[0][1]) if pair[0] != pair[1] and last(*calls, ("send", *pair)) == [1]]


class SendTest(unittest.TestCase):
    def test_all_come_where_all_hangs_together(self):
        for s in range(1, 8):
            self.assertEqual(len(who_comes(*ROW, ("choose", s))), 6)

    def test_no_such_place(self):
        for u, v in [(3, 0), (0, 3), (3, 3), (LARGEST, LARGEST), (1, LARGEST)]:
            self.assertTrue(nothing_changed(ROW, ("send", u, v), 3, -2))

    def test_to_itself(self):
        for u in range(3):
            self.assertTrue(nothing_changed(ROW, ("send", u, u), 3, -22))

    def test_nobody_chosen(self):
        self.assertEqual(who_comes(*ROW, ("choose", 0)), [])
        self.assertEqual(who_comes(("begin", 2), ("line", 0, 1, 5), ("make",)), [])

    def test_no_way_leads_there(self):
        self.assertEqual(who_comes(*PIECES, ("choose", 15)), [(0, 1), (1, 0), (2, 3), (3, 2)])
        self.assertEqual(who_comes(*PIECES, ("greedy", 1)), [(0, 1), (1, 0), (2, 3), (3, 2)])
        self.assertEqual(who_comes(("begin", 3), ("choose", 7)), [])

    def test_a_piece_without_a_chosen_one(self):
        self.assertEqual(who_comes(*PIECES, ("choose", 1)), [(0, 1), (1, 0)])
        self.assertEqual(who_comes(*PIECES, ("choose", 8)), [(2, 3), (3, 2)])

    def test_lines_of_the_land_that_the_base_does_not_know(self):
        self.assertEqual(who_comes(("begin", 3), ("choose", 7), *ROW[1:3]), [])
        self.assertEqual(len(who_comes(("begin", 3), ("choose", 7), *ROW[1:3], ("make",))), 6)

    def test_a_line_cut_that_the_base_has(self):
        rows = told(*RING, ("lines",), ("cut", 0), ("send", 0, 1), ("dist", 0, 1), ("make",), ("send", 0, 1))
        self.assertEqual(rows[-6:], [[4, 0, 1, 1, 0, 3, 1, 1, 2, 1, 2, 3, 1], [3], [0], [3], [3], [1]])
        self.assertEqual(who_comes(*RING, ("cut", 0)), [(0, 3), (1, 2), (2, 1), (3, 0)])

    def test_a_line_cut_that_the_base_has_not(self):
        self.assertEqual(len(who_comes(*RING, ("cut", 3))), 12)

    def test_a_line_cut_and_laid_again(self):
        self.assertEqual(last(*RING, ("cut", 0), ("line", 0, 1, 50), ("send", 0, 1)), [1])

    def test_a_line_lengthened(self):
        self.assertEqual(len(who_comes(*RING, ("line", 0, 1, 99))), 12)
        self.assertEqual(desk_behind(RING).message_goes(2, 3), 3)
        self.assertEqual(desk_behind([*RING, ("line", 0, 1, 99)]).message_goes(2, 3), 101)

    def test_a_shorter_line_that_the_base_does_not_know(self):
        calls = [*ROW, ("line", 0, 2, 1)]
        self.assertEqual(last(*calls, ("dist", 0, 2)), [1])
        self.assertEqual(len(who_comes(*calls)), 6)
        self.assertEqual(desk_behind(calls).message_goes(0, 2), 12)
        self.assertEqual(desk_behind([*calls, ("make",)]).message_goes(0, 2), 1)


class WayTest(unittest.TestCase):
    def test_on_from_the_chosen_one(self):
        # 0 has no entry for 2: the address says where one goes on from 0.
        desk = desk_behind(ROW)
        self.assertEqual(desk.made.tables, [{}, {0: 0, 2: 2}, {0: 1}])
        self.assertEqual(desk.made.addresses, [(0, 0, 0), (1, 0, 1), (2, 0, 1)])
        self.assertEqual(way(desk, 0, 2), [0, 1, 2])

    def test_round_by_the_chosen_one(self):
        # A star about 3 with a chosen end: 1 isn't in the table of 2, so the message goes towards 0
        # until somebody knows 1; 3 does.
        laid = [("begin", 4), ("line", 0, 3, 1), ("line", 1, 3, 5), ("line", 2, 3, 5), ("choose", 1)]
        desk = desk_behind(laid)
        self.assertEqual(desk.made.tables, [{}, {0: 3}, {0: 3}, {0: 0, 1: 1, 2: 2}])
        self.assertEqual(way(desk, 2, 1), [2, 3, 1])

    def test_farther_than_it_must(self):
        laid = [("begin", 3), ("line", 0, 1, 5), ("line", 0, 2, 5), ("line", 1, 2, 9), ("choose", 1)]
        desk = desk_behind(laid)
        self.assertEqual(len(desk.made.base), 3)
        self.assertEqual(way(desk, 1, 2), [1, 0, 2])
        self.assertEqual(desk.message_goes(1, 2), 10)
        laid[3] = ("line", 1, 2, 4)
        self.assertEqual(way(desk_behind(laid), 1, 2), [1, 2])

    def test_the_least_one_beside_it(self):
        laid = [("begin", 4), ("line", 0, 1, 1), ("line", 0, 2, 1), ("line", 1, 3, 1), ("line", 2, 3, 1)]
        desk = desk_behind([*laid, ("choose", 9)])
        self.assertEqual([desk.made.tables[0][3], desk.made.tables[3][0]], [1, 1])
        desk = desk_behind([*laid, ("choose", 1)])
        self.assertEqual(desk.made.addresses[3], (3, 0, 1))

    def test_the_sender_alone(self):
        self.assertEqual(way(desk_behind([*ROW, ("choose", 0)]), 0, 1), [0])
        self.assertEqual(way(desk_behind([*PIECES, ("choose", 5)]), 0, 3), [0])

    def test_how_far(self):
        lines = [(2, 0, 1), (3, 1, 2)]
        self.assertEqual(how_far(lines, [0, 1, 2], 2), 5)
        self.assertEqual(how_far(lines, [2, 1, 2], 2), 6)
        self.assertEqual(how_far(lines, [2], 2), 0)
        self.assertEqual(how_far(lines, [0, 1], 2), None)
        self.assertEqual(how_far(lines, [0, 2], 2), None)


class AllTest(unittest.TestCase):
    def test_how_many_are_sent(self):
        for places in range(1, 9):
            self.assertEqual(last(("begin", places), ("all_sent",)), [places * (places - 1)])

    def test_lost_ones_are_sent_too(self):
        for s in (0, 1, 5, 15):
            self.assertEqual(last(*PIECES, ("choose", s), ("all_sent",)), [12])

    def test_it_is_one_change(self):
        self.assertEqual(firsts(*PIECES, ("all_sent",), ("back",), ("back",), ("back",), ("back",))[-4:], [2, 1, 0, -6])
        self.assertEqual(firsts(("begin", 1), ("all_sent",), ("back",)), [0, 0, 0])


class SentTest(unittest.TestCase):
    def counted(self, *calls):
        desk = desk_behind(calls)
        return (desk.sent, desk.lost, desk.gone)

    def test_at_the_beginning(self):
        self.assertEqual(self.counted(("begin", 3)), (0, 0, 0))

    def test_messages(self):
        self.assertEqual(self.counted(*ROW, ("send", 0, 2), ("send", 1, 0)), (2, 0, 17))
        self.assertEqual(self.counted(*ROW, ("cut", 0), ("send", 0, 2), ("send", 1, 2)), (2, 1, 7))
        self.assertEqual(self.counted(*ROW, ("all_sent",)), (6, 0, 48))
        self.assertEqual(self.counted(*PIECES, ("choose", 1), ("all_sent",), ("all_sent",)), (24, 20, 20))

    def test_other_changes_leave_the_count(self):
        calls = [*ROW, ("all_sent",), ("line", 0, 1, 9), ("cut", 0), ("times", 2), ("order", [2, 1, 0])]
        self.assertEqual(self.counted(*calls, ("choose", 2), ("greedy", 2), ("make",)), (6, 0, 48))
