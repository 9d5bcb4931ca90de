import unittest

from nearkeptdesk.marks import marks_in_order, told_by_marks
from nearkeptdesk.ways import distances
from tests.helper import LARGEST, desk_behind, firsts, last, nothing_changed, told

# A ring of four with a line across.
RING = [
    ("begin", 4), ("line", 0, 1, 1), ("line", 1, 2, 1), ("line", 2, 3, 1), ("line", 0, 3, 1),
    ("line", 0, 2, 3),
]
ROW = [("begin", 3), ("line", 0, 1, 1), ("line", 1, 2, 1)]
MAKING = [("times", 1), ("order", [0, 1, 2]), ("choose", 0), ("greedy", 1), ("make",)]


class TimesTest(unittest.TestCase):
    def test_how_many_the_base_has(self):
        # The last line of the ring is kept while the way round, 3, is more than t times 1.
        self.assertEqual(firsts(*RING, ("times", 1), ("times", 2), ("times", 3))[-3:], [4, 4, 3])

    def test_which_the_base_has(self):
        self.assertEqual(last(*RING, ("times", 2), ("base",)), [4, 0, 1, 1, 0, 3, 1, 1, 2, 1, 2, 3, 1])
        self.assertEqual(last(*RING, ("times", 3), ("base",)), [3, 0, 1, 1, 0, 3, 1, 1, 2, 1])

    def test_t_of_one(self):
        laid = [("begin", 3), ("line", 0, 1, 4), ("line", 1, 2, 4)]
        # A way just as long will do; one that is longer by 1 won't.
        self.assertEqual(last(*laid, ("line", 0, 2, 8), ("times", 1)), [2])
        self.assertEqual(last(*laid, ("line", 0, 2, 7), ("times", 1)), [3])
        self.assertEqual(last(*laid, ("line", 0, 2, 9), ("times", 1)), [2])

    def test_just_t_times_as_long(self):
        # In a ring of like lines the last one has a way round: t times as long, where there are t others.
        for t in range(2, 8):
            ring = [("begin", t + 1), ("line", 0, t, 5)] + [("line", place, place + 1, 5) for place in range(t)]
            self.assertEqual(firsts(*ring, ("times", t - 1), ("times", t))[-2:], [t + 1, t])

    def test_one_to_nine(self):
        for t in range(1, 10):
            self.assertEqual(last(*RING, ("times", t)), [4 if t < 3 else 3])
        for t in (0, 10, LARGEST):
            self.assertTrue(nothing_changed(RING, ("times", t), 4, -22))

    def test_a_refused_one_leaves_t(self):
        for t in (0, 10):
            self.assertEqual(last(*RING, ("times", 3), ("times", t), ("make",)), [3])

    def test_t_stays(self):
        for call in MAKING[2:]:
            self.assertEqual(last(*RING, ("times", 3), call, ("base",))[0], 3)

    def test_like_ones_are_gone_through_by_places(self):
        laid = [("begin", 3), ("line", 1, 2, 1), ("line", 0, 2, 1), ("line", 0, 1, 1)]
        self.assertEqual(last(*laid, ("times", 2), ("base",)), [2, 0, 1, 1, 0, 2, 1])

    def test_a_land_in_two_pieces(self):
        laid = [("begin", 5), ("line", 0, 1, 99), ("line", 2, 3, 99)]
        self.assertEqual(told(*laid, ("times", 9), ("base",))[-2:], [[2], [2, 0, 1, 99, 2, 3, 99]])

    def test_no_lines(self):
        self.assertEqual(told(("begin", 1), ("times", 9), ("base",))[1:], [[0], [0]])


class OrderTest(unittest.TestCase):
    def test_how_many_marks(self):
        self.assertEqual(last(*ROW, ("order", [0, 1, 2])), [6])
        self.assertEqual(last(*ROW, ("order", [1, 0, 2])), [5])
        self.assertEqual(last(*ROW, ("order", [2, 0, 1])), [6])

    def test_without_lines_each_marks_itself(self):
        for places in range(1, 9):
            self.assertEqual(last(("begin", places), ("order", list(range(places)))), [places])

    def test_a_land_in_two_pieces(self):
        laid = [("begin", 4), ("line", 0, 1, 5), ("line", 2, 3, 5)]
        self.assertEqual(last(*laid, ("order", [3, 1, 0, 2])), [6])

    def test_the_marks_themselves(self):
        far = distances(3, [(1, 0, 1), (1, 1, 2)])
        self.assertEqual(marks_in_order(far, [0, 1, 2]), [[(0, 0)], [(0, 1), (1, 0)], [(0, 2), (1, 1), (2, 0)]])
        self.assertEqual(marks_in_order(far, [1, 0, 2]), [[(1, 1), (0, 0)], [(1, 0)], [(1, 1), (2, 0)]])

    def test_the_order_stays(self):
        marks = [[(1, 1), (0, 0)], [(1, 0)], [(1, 1), (2, 0)]]
        for call in (("times", 2), ("choose", 1), ("greedy", 1), ("make",)):
            self.assertEqual(desk_behind([*ROW, ("order", [1, 0, 2]), call]).made.marks, marks)
            self.assertEqual(desk_behind([ROW[0], ("order", [1, 0, 2]), *ROW[1:], call]).made.marks, marks)

    def test_marks_tell_just_the_distances(self):
        far = distances(4, [(2, 0, 1), (3, 1, 2), (4, 0, 2)])
        for order in ([0, 1, 2, 3], [3, 2, 1, 0], [1, 3, 0, 2]):
            marks = marks_in_order(far, order)
            for u in range(4):
                self.assertEqual([told_by_marks(marks, u, v) for v in range(4)], far[u])

    def test_not_each_place_once(self):
        rows = [[], [0], [0, 1], [0, 1, 2, 3], [0, 1, 1], [0, 0, 1, 2], [1, 2, 3], [0, 1, 65535], [0] * 12]
        rows += [[0, 1, 2] * 4, list(range(12))]
        for row in rows:
            self.assertTrue(nothing_changed(ROW, ("order", row), 3, -22))

    def test_one_place(self):
        self.assertEqual(last(("begin", 1), ("order", [0])), [1])
        for row in ([], [1], [0, 0]):
            self.assertTrue(nothing_changed([("begin", 1)], ("order", row), 1, -22))

    def test_eight_places(self):
        laid = [("begin", 8)] + [("line", 0, place, 1) for place in range(1, 8)]
        self.assertEqual(last(*laid, ("order", [7, 0, 1, 2, 3, 4, 5, 6])), [8 + 7 + 6])
        self.assertEqual(last(*laid, ("order", [0, 7, 6, 5, 4, 3, 2, 1])), [8 + 7])

    def test_an_order_laid_anew_counts_by_the_land_now(self):
        calls = [("begin", 3), ("order", [1, 0, 2]), ("line", 0, 1, 1), ("line", 1, 2, 1)]
        calls += [("order", [1, 0, 2]), ("cut", 0), ("order", [1, 0, 2]), ("order", [0, 1, 2])]
        self.assertEqual(firsts(*calls), [0, 3, 1, 2, 5, 1, 4, 4])


class MakeTest(unittest.TestCase):
    def test_how_many_the_base_has(self):
        self.assertEqual(last(("begin", 3), ("make",)), [0])
        self.assertEqual(last(*ROW, ("make",)), [2])
        self.assertEqual(last(*RING, ("make",)), [4])
        self.assertEqual(last(*RING, ("times", 3), ("cut", 0), ("make",)), [3])

    def test_the_base_has_its_lines_lengths(self):
        made = [*ROW, ("make",), ("line", 0, 1, 9)]
        rows = told(*made, ("base",), ("make",), ("base",))
        self.assertEqual(rows[-3:], [[2, 0, 1, 1, 1, 2, 1], [2], [2, 1, 2, 1, 0, 1, 9]])


class FreshTest(unittest.TestCase):
    def test_a_line_does_not_make_all_anew(self):
        rows = told(("begin", 3), ("fresh",), ("base",), ("line", 0, 1, 1), ("fresh",), ("base",))
        self.assertEqual(rows[1:], [[1], [0], [1], [0], [0]])

    def test_a_cut_does_not(self):
        rows = told(*ROW, ("make",), ("fresh",), ("cut", 0), ("fresh",), ("base",))
        self.assertEqual(rows[-4:], [[1], [1], [0], [2, 0, 1, 1, 1, 2, 1]])

    def test_messages_do_not(self):
        for call in (("send", 0, 1), ("all_sent",)):
            rows = told(*ROW, ("fresh",), ("base",), call, ("fresh",), ("base",))
            self.assertEqual(rows[3:5] + rows[6:], [[0], [0], [0], [0]])
            rows = told(*ROW, ("make",), call, ("fresh",), ("base",))
            self.assertEqual(rows[-2:], [[1], [2, 0, 1, 1, 1, 2, 1]])

    def test_the_others_do(self):
        for call in MAKING:
            rows = told(*ROW, ("fresh",), ("base",), call, ("fresh",), ("base",))
            self.assertEqual(rows[3:5] + rows[6:], [[0], [0], [1], [2, 0, 1, 1, 1, 2, 1]])
            rows = told(*ROW, ("make",), ("cut", 1), call, ("fresh",), ("base",))
            self.assertEqual(rows[-2:], [[1], [1, 0, 1, 1]])

    def test_refused_ones_do_not(self):
        for call in (("times", 0), ("order", [0, 1]), ("choose", 8), ("greedy", 9)):
            rows = told(*ROW, call, ("fresh",), ("base",))
            self.assertEqual(rows[-2:], [[0], [0]])

    def test_other_lengths(self):
        made = [*ROW, ("make",)]
        self.assertEqual(last(*made, ("line", 0, 1, 2), ("fresh",)), [0])
        self.assertEqual(last(*made, ("line", 0, 1, 1), ("fresh",)), [1])

    def test_a_line_that_the_base_has_not(self):
        # Fresh is told by the land's lines, not by the base's.
        made = [*RING, ("make",)]
        self.assertEqual(told(*made, ("cut", 4), ("fresh",), ("make",))[-2:], [[0], [4]])
        self.assertEqual(told(*made, ("line", 0, 2, 4), ("fresh",), ("make",))[-2:], [[0], [4]])

    def test_lines_as_they_were(self):
        self.assertEqual(last(*ROW, ("make",), ("cut", 0), ("line", 1, 0, 1), ("fresh",)), [1])
        self.assertEqual(last(*ROW, ("make",), ("line", 0, 2, 5), ("cut", 2), ("fresh",)), [1])
