"""The way of a message, whether it would come, and how far it would go."""

import unittest

from tests.helper import LARGEST, last, nothing_changed, pairs, told

ROW = [("begin", 3), ("line", 0, 1, 5), ("line", 1, 2, 7), ("choose", 1)]
PIECES = [("begin", 4), ("line", 0, 1, 5), ("line", 2, 3, 5)]
# A star about 3, of which the end 0 is chosen.
STAR = [("begin", 4), ("line", 0, 3, 1), ("line", 1, 3, 5), ("line", 2, 3, 5), ("choose", 1)]
# The way by the chosen place 0 is longer than the line from 1 to 2.
ROUND = [("begin", 3), ("line", 0, 1, 5), ("line", 0, 2, 5), ("line", 1, 2, 9), ("choose", 1)]
CALLS = ("route", "comes", "length")


def of_message(u, v, *calls):
    """Its way, whether it would come, and how far it would go."""
    return told(*calls, *[(name, u, v) for name in CALLS])[-3:]


class RouteTest(unittest.TestCase):
    def test_a_table_tells_the_way(self):
        self.assertEqual(of_message(2, 0, *ROW), [[3, 2, 1, 0], [1], [12]])
        self.assertEqual(of_message(1, 2, *ROW), [[2, 1, 2], [1], [7]])

    def test_by_the_address_of_the_chosen_one(self):
        # 0 is chosen and has nobody in its table.
        self.assertEqual(of_message(0, 2, *ROW), [[3, 0, 1, 2], [1], [12]])
        self.assertEqual(of_message(1, 2, *ROUND), [[3, 1, 0, 2], [1], [10]])
        self.assertEqual(last(*ROUND, ("dist", 1, 2)), [9])

    def test_it_leaves_before_the_chosen_one(self):
        self.assertEqual(of_message(2, 1, *STAR), [[3, 2, 3, 1], [1], [10]])

    def test_the_least_one_beside_it(self):
        laid = [("begin", 4), ("line", 0, 1, 1), ("line", 0, 2, 1), ("line", 1, 3, 1), ("line", 2, 3, 1)]
        for s in (1, 8, 9):
            self.assertEqual(last(*laid, ("choose", s), ("route", 0, 3)), [3, 0, 1, 3])
            self.assertEqual(last(*laid, ("choose", s), ("route", 3, 0)), [3, 3, 1, 0])

    def test_whom_it_is_for_has_no_chosen_one(self):
        nobody = [*ROW, ("choose", 0)]
        for u, v in pairs(3):
            if u != v:
                self.assertEqual(of_message(u, v, *nobody), [[1, u], [0], [-33]])
        self.assertEqual(of_message(2, 3, *PIECES, ("choose", 1)), [[1, 2], [0], [-33]])
        self.assertEqual(of_message(0, 3, *PIECES, ("choose", 1)), [[1, 0], [0], [-33]])

    def test_both_the_same(self):
        for s in range(8):
            for u in range(3):
                self.assertEqual(of_message(u, u, *ROW, ("choose", s)), [[1, u], [1], [0]])
        self.assertEqual(of_message(0, 0, ("begin", 1)), [[1, 0], [1], [0]])
        self.assertEqual(of_message(1, 1, *ROW, ("cut", 0), ("cut", 0)), [[1, 1], [1], [0]])

    def test_no_way_leads_there(self):
        for s in (5, 15, 4):
            self.assertEqual(of_message(0, 3, *PIECES, ("choose", s)), [[1, 0], [0], [-33]])

    def test_no_such_place(self):
        for name in CALLS:
            for u, v in [(3, 0), (0, 3), (3, 3), (2, 8), (LARGEST, 0), (0, LARGEST), (LARGEST, LARGEST)]:
                self.assertTrue(nothing_changed(ROW, (name, u, v), 3, -2))

    def test_it_would_not_come(self):
        self.assertTrue(nothing_changed([*ROW, ("cut", 0)], ("length", 0, 2), 3, -33))
        self.assertTrue(nothing_changed([*ROW, ("choose", 0)], ("length", 0, 2), 3, -33))


class ChangedLandTest(unittest.TestCase):
    def test_a_line_of_the_way_cut(self):
        self.assertEqual(of_message(0, 2, *ROW, ("cut", 0)), [[3, 0, 1, 2], [0], [-33]])
        self.assertEqual(of_message(0, 2, *ROW, ("cut", 1)), [[3, 0, 1, 2], [0], [-33]])
        self.assertEqual(of_message(1, 2, *ROW, ("cut", 0)), [[2, 1, 2], [1], [7]])

    def test_a_line_cut_that_is_not_of_the_way(self):
        self.assertEqual(of_message(1, 2, *ROUND, ("cut", 2)), [[3, 1, 0, 2], [1], [10]])

    def test_a_line_of_the_way_lengthened(self):
        self.assertEqual(of_message(0, 2, *ROW, ("line", 1, 0, 50)), [[3, 0, 1, 2], [1], [57]])
        self.assertEqual(of_message(2, 1, *STAR, ("line", 2, 3, 99)), [[3, 2, 3, 1], [1], [104]])

    def test_a_line_of_the_way_shortened(self):
        self.assertEqual(of_message(0, 2, *ROW, ("line", 0, 1, 1)), [[3, 0, 1, 2], [1], [8]])

    def test_a_line_cut_and_laid_again(self):
        self.assertEqual(of_message(0, 2, *ROW, ("cut", 0), ("line", 0, 1, 9)), [[3, 0, 1, 2], [1], [16]])

    def test_a_shorter_line_that_the_base_does_not_know(self):
        self.assertEqual(of_message(0, 2, *ROW, ("line", 0, 2, 1)), [[3, 0, 1, 2], [1], [12]])
        self.assertEqual(of_message(0, 2, *ROW, ("line", 0, 2, 1), ("make",)), [[2, 0, 2], [1], [1]])

    def test_two_pieces_joined_since(self):
        self.assertEqual(of_message(0, 3, *PIECES, ("choose", 15), ("line", 0, 3, 1)), [[1, 0], [0], [-33]])

    def test_it_is_what_a_message_sent_does(self):
        for before in (ROW, STAR, ROUND, [*STAR, ("cut", 1)], [*PIECES, ("choose", 4)], [*ROW, ("line", 0, 1, 50)]):
            for u, v in pairs(before[0][1]):
                if u != v:
                    rows = told(*before, ("comes", u, v), ("length", u, v), ("send", u, v), ("count",))[-4:]
                    self.assertEqual(rows[0], rows[2])
                    self.assertEqual(rows[3], [1, 0, rows[1][0]] if rows[0] == [1] else [1, 1, 0])
