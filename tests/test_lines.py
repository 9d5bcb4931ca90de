import unittest

from tests.helper import LARGEST, firsts, last, nothing_changed, told

# Fourteen lines of eight places; the lengths fall, so that the order of lines isn't that of laying.
FOURTEEN = [("begin", 8)] + [
    ("line", a, b, 50 - a - b) for a, b in [
        (0, 1), (0, 2), (0, 3), (0, 4), (0, 5), (0, 6), (0, 7),
        (1, 2), (2, 3), (3, 4), (4, 5), (5, 6), (6, 7), (1, 7),
    ]
]


class LineTest(unittest.TestCase):
    def test_it_tells_how_many_lines(self):
        calls = [("begin", 3), ("line", 0, 1, 5), ("line", 1, 2, 5), ("line", 0, 2, 5)]
        self.assertEqual(firsts(*calls), [0, 1, 2, 3])

    def test_no_such_place(self):
        before = [("begin", 3), ("line", 0, 1, 5)]
        for a, b in [(3, 0), (0, 3), (3, 3), (3, 4), (LARGEST, 0), (0, LARGEST)]:
            self.assertTrue(nothing_changed(before, ("line", a, b, 5), 3, -2))

    def test_both_the_same(self):
        before = [("begin", 3), ("line", 0, 1, 5)]
        for a in range(3):
            self.assertTrue(nothing_changed(before, ("line", a, a, 5), 3, -22))

    def test_lengths(self):
        before = [("begin", 3), ("line", 0, 1, 5)]
        for w in (0, 100, 101, LARGEST):
            self.assertTrue(nothing_changed(before, ("line", 1, 2, w), 3, -22))
            self.assertTrue(nothing_changed(before, ("line", 0, 1, w), 3, -22))
        for w in (1, 2, 98, 99):
            self.assertEqual(last(*before, ("line", 1, 2, w), ("dist", 1, 2)), [w])

    def test_no_such_place_is_told_first(self):
        before = [("begin", 3)]
        for a, b, w in [(3, 3, 5), (3, 0, 0), (0, 3, 100), (3, 3, 0)]:
            self.assertTrue(nothing_changed(before, ("line", a, b, w), 3, -2))

    def test_places_in_either_order(self):
        for a, b in [(0, 2), (2, 0)]:
            self.assertEqual(last(("begin", 3), ("line", a, b, 7), ("lines",)), [1, 0, 2, 7])

    def test_one_that_joined_them_goes(self):
        before = [("begin", 3), ("line", 0, 1, 5), ("line", 1, 2, 6)]
        for a, b in [(0, 1), (1, 0)]:
            for w in (1, 5, 9):
                rows = told(*before, ("line", a, b, w), ("lines",), ("dist", 0, 1))
                self.assertEqual(rows[3], [2])
                expected = [0, 1, w, 1, 2, 6] if w < 6 else [1, 2, 6, 0, 1, w]
                self.assertEqual(rows[4], [2] + expected)
                self.assertEqual(rows[5], [w])

    def test_fourteen_and_no_more(self):
        self.assertEqual(last(*FOURTEEN), [14])
        self.assertTrue(nothing_changed(FOURTEEN, ("line", 3, 7, 5), 8, -28))

    def test_another_length_where_there_are_fourteen(self):
        self.assertEqual(told(*FOURTEEN, ("line", 7, 1, 99), ("dist", 1, 7))[-2][0], 14)
        rows = told(*FOURTEEN, ("line", 1, 0, 1), ("lines",))
        self.assertEqual(rows[-2], [14])
        self.assertEqual(rows[-1][:4], [14, 0, 1, 1])
        self.assertEqual(len(rows[-1]), 43)

    def test_other_refusals_come_ahead_of_too_many(self):
        self.assertTrue(nothing_changed(FOURTEEN, ("line", 3, 8, 5), 8, -2))
        self.assertTrue(nothing_changed(FOURTEEN, ("line", 3, 3, 5), 8, -22))
        self.assertTrue(nothing_changed(FOURTEEN, ("line", 3, 7, 100), 8, -22))

    def test_a_cut_makes_room_again(self):
        self.assertEqual(firsts(*FOURTEEN, ("cut", 3), ("line", 3, 7, 5))[-2:], [13, 14])

    def test_order_of_lines(self):
        laid = [("line", 2, 3, 4), ("line", 3, 1, 2), ("line", 0, 3, 4), ("line", 2, 1, 2), ("line", 0, 1, 9),
                ("line", 2, 0, 4)]
        expected = [6, 1, 2, 2, 1, 3, 2, 0, 2, 4, 0, 3, 4, 2, 3, 4, 0, 1, 9]
        self.assertEqual(last(("begin", 4), *laid, ("lines",)), expected)
        self.assertEqual(last(("begin", 4), *laid[::-1], ("lines",)), expected)


class CutTest(unittest.TestCase):
    LAID = [("begin", 4), ("line", 2, 3, 7), ("line", 0, 1, 5), ("line", 1, 2, 6)]

    def test_first_middle_and_last(self):
        self.assertEqual(told(*self.LAID, ("cut", 0), ("lines",))[-2:], [[2], [2, 1, 2, 6, 2, 3, 7]])
        self.assertEqual(told(*self.LAID, ("cut", 1), ("lines",))[-2:], [[2], [2, 0, 1, 5, 2, 3, 7]])
        self.assertEqual(told(*self.LAID, ("cut", 2), ("lines",))[-2:], [[2], [2, 0, 1, 5, 1, 2, 6]])

    def test_no_such_line(self):
        for i in (3, 4, 14, LARGEST):
            self.assertTrue(nothing_changed(self.LAID, ("cut", i), 4, -2))
        for i in (0, 1, LARGEST):
            self.assertTrue(nothing_changed([("begin", 4)], ("cut", i), 4, -2))

    def test_till_none_is_left(self):
        rows = told(*self.LAID, ("cut", 0), ("cut", 0), ("cut", 0), ("cut", 0), ("lines",))
        self.assertEqual(rows[4:], [[2], [1], [0], [-2], [0]])

    def test_lines_are_numbered_anew(self):
        rows = told(*self.LAID, ("line", 0, 3, 1), ("cut", 0), ("lines",))
        self.assertEqual(rows[-1], [3, 0, 1, 5, 1, 2, 6, 2, 3, 7])

    def test_of_fourteen_the_last(self):
        rows = told(*FOURTEEN, ("lines",), ("cut", 13), ("lines",), ("cut", 13))
        self.assertEqual(rows[-3:], [[13], [13] + rows[-4][1:40], [-2]])


class DistTest(unittest.TestCase):
    def test_shortest_way(self):
        laid = [("begin", 4), ("line", 0, 1, 2), ("line", 1, 2, 3), ("line", 0, 2, 9), ("line", 2, 3, 99)]
        expected = {(0, 1): 2, (0, 2): 5, (0, 3): 104, (1, 2): 3, (1, 3): 102, (2, 3): 99}
        for (u, v), distance in expected.items():
            self.assertEqual(last(*laid, ("dist", u, v)), [distance])
            self.assertEqual(last(*laid, ("dist", v, u)), [distance])

    def test_longest_way(self):
        laid = [("line", place, place + 1, 99) for place in range(7)]
        self.assertEqual(last(("begin", 8), *laid, ("dist", 7, 0)), [693])

    def test_from_itself(self):
        for place in range(3):
            self.assertEqual(last(("begin", 3), ("dist", place, place)), [0])

    def test_no_such_place(self):
        laid = [("begin", 3), ("line", 0, 1, 5)]
        for u, v in [(3, 0), (0, 3), (3, 3), (LARGEST, LARGEST), (2, 8)]:
            self.assertTrue(nothing_changed(laid, ("dist", u, v), 3, -2))

    def test_a_land_in_two_pieces(self):
        laid = [("begin", 4), ("line", 0, 1, 5), ("line", 2, 3, 6)]
        self.assertTrue(nothing_changed(laid, ("dist", 0, 2), 4, -33))
        self.assertTrue(nothing_changed(laid, ("dist", 3, 1), 4, -33))
        self.assertEqual(last(*laid, ("dist", 3, 2)), [6])

    def test_it_is_of_the_land_now(self):
        made = [("begin", 3), ("line", 0, 1, 5), ("line", 1, 2, 5), ("make",)]
        self.assertEqual(last(*made, ("line", 0, 2, 3), ("dist", 0, 2)), [3])
        self.assertEqual(last(*made, ("line", 0, 1, 50), ("dist", 0, 2)), [55])
        self.assertEqual(last(*made, ("cut", 0), ("dist", 0, 2)), [-33])

    def test_it_is_not_of_the_base(self):
        # For t of 9 the base leaves the line from 0 to 2 out.
        laid = [("begin", 3), ("line", 0, 1, 5), ("line", 1, 2, 5), ("line", 0, 2, 6), ("times", 9)]
        self.assertEqual(told(*laid, ("base",), ("dist", 0, 2))[-2:], [[2, 0, 1, 5, 1, 2, 5], [6]])
