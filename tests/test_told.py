"""What is told of two places by the base, by marks and by chosen ones, and all of it compared."""

import unittest

from tests.helper import LARGEST, last, nothing_changed, pairs, told

ROW = [("begin", 3), ("line", 0, 1, 5), ("line", 1, 2, 7), ("make",)]
FIVE = [("begin", 5)] + [("line", place, place + 1, 1) for place in range(4)]
PIECES = [("begin", 4), ("line", 0, 1, 5), ("line", 2, 3, 5)]
# A ring of four; for t of 3 the base hasn't the line from 2 to 3, which is line 3 of the land.
RING = [
    ("begin", 4), ("line", 0, 1, 1), ("line", 1, 2, 1), ("line", 2, 3, 1), ("line", 0, 3, 1),
    ("times", 3), ("choose", 1),
]
NONE_SUCH = [(3, 0), (0, 3), (3, 3), (4, 7), (1, 8), (LARGEST, 0), (0, LARGEST), (LARGEST, LARGEST)]


def of_pairs(name, *calls):
    """What the call tells of each two places, the lesser first; it must tell the same the other way round."""
    numbers = []
    for u, v in pairs(calls[0][1]):
        if u <= v:
            rows = told(*calls, (name, u, v), (name, v, u))[-2:]
            if rows[0] != rows[1] or len(rows[0]) != 1:
                raise AssertionError((name, u, v, rows))
            numbers.append(rows[0][0])
    return numbers


class KeptTest(unittest.TestCase):
    def test_distances_in_the_base(self):
        self.assertEqual(of_pairs("kept", *ROW), [0, 5, 12, 0, 7, 0])
        self.assertEqual(of_pairs("kept", *RING), [0, 1, 2, 1, 0, 1, 2, 0, 3, 0])

    def test_a_base_without_lines(self):
        self.assertEqual(of_pairs("kept", *ROW[:3]), [0, -33, -33, 0, -33, 0])
        self.assertEqual(of_pairs("kept", ("begin", 1)), [0])

    def test_no_such_place(self):
        for u, v in NONE_SUCH:
            self.assertTrue(nothing_changed(ROW, ("kept", u, v), 3, -2))

    def test_no_way_leads_there(self):
        self.assertTrue(nothing_changed([*PIECES, ("make",)], ("kept", 0, 3), 4, -33))
        self.assertEqual(of_pairs("kept", *PIECES, ("make",)), [0, 5, -33, -33, 0, -33, -33, 0, 5, 0])

    def test_a_line_left_out(self):
        laid = [("begin", 3), ("line", 0, 1, 4), ("line", 1, 2, 4), ("line", 0, 2, 5)]
        self.assertEqual(told(*laid, ("make",), ("kept", 0, 2), ("times", 2), ("kept", 0, 2))[-3:], [[5], [2], [8]])

    def test_a_line_cut_that_the_base_has(self):
        rows = told(*RING, ("cut", 0), ("kept", 0, 1), ("dist", 0, 1), ("make",), ("kept", 0, 1))
        self.assertEqual(rows[-5:], [[3], [1], [3], [3], [3]])
        self.assertEqual(told(*ROW, ("cut", 0), ("kept", 0, 2), ("dist", 0, 2))[-2:], [[12], [-33]])

    def test_a_line_cut_that_the_base_has_not(self):
        before = told(*RING, ("kept", 2, 3), ("dist", 2, 3))[-2:]
        behind = told(*RING, ("cut", 3), ("kept", 2, 3), ("dist", 2, 3))[-2:]
        self.assertEqual(before + behind, [[3], [1], [3], [3]])

    def test_a_line_lengthened(self):
        rows = told(*ROW, ("line", 0, 1, 50), ("kept", 0, 2), ("dist", 0, 2), ("make",), ("kept", 0, 2))
        self.assertEqual(rows[-4:], [[12], [57], [2], [57]])

    def test_a_shorter_line_that_the_base_does_not_know(self):
        rows = told(*ROW, ("line", 0, 2, 1), ("kept", 0, 2), ("dist", 0, 2), ("make",), ("kept", 0, 2))
        self.assertEqual(rows[-4:], [[12], [1], [2], [1]])


class MarksTest(unittest.TestCase):
    def marks(self, *calls):
        places = calls[0][1]
        return told(*calls, *[("marks", v) for v in range(places)])[-places:]

    def test_in_the_order_in_which_they_came(self):
        self.assertEqual(self.marks(*ROW), [[1, 0, 0], [2, 0, 5, 1, 0], [3, 0, 12, 1, 7, 2, 0]])

    def test_an_order_laid_anew(self):
        laid = [[2, 1, 5, 0, 0], [1, 1, 0], [2, 1, 7, 2, 0]]
        self.assertEqual(self.marks(*ROW, ("order", [1, 0, 2])), laid)
        self.assertEqual(self.marks(*ROW, ("order", [2, 0, 1]), ("order", [1, 2, 0])), laid)
        self.assertEqual(self.marks(*ROW, ("order", [2, 0, 1])), [[2, 2, 12, 0, 0], [3, 2, 7, 0, 5, 1, 0], [1, 2, 0]])

    def test_a_refused_order_lays_none(self):
        self.assertEqual(self.marks(*ROW, ("order", [1, 0, 0])), self.marks(*ROW))

    def test_without_lines(self):
        self.assertEqual(self.marks(*ROW[:3]), [[1, 0, 0], [1, 1, 0], [1, 2, 0]])
        self.assertEqual(self.marks(("begin", 1)), [[1, 0, 0]])

    def test_a_land_in_two_pieces(self):
        marks = [[1, 0, 0], [2, 0, 5, 1, 0], [2, 3, 5, 2, 0], [1, 3, 0]]
        self.assertEqual(self.marks(*PIECES, ("order", [3, 0, 1, 2])), marks)

    def test_just_as_far_is_told(self):
        # 1 doesn't mark 3: the marks that both have of 0 tell 2 already, which is their distance.
        ring = [*RING[:5], ("make",)]
        self.assertEqual(self.marks(*ring), [[1, 0, 0], [2, 0, 1, 1, 0], [3, 0, 2, 1, 1, 2, 0], [3, 0, 1, 2, 1, 3, 0]])

    def test_no_such_place(self):
        for v in (3, 4, 8, LARGEST):
            self.assertTrue(nothing_changed(ROW, ("marks", v), 3, -2))

    def test_as_many_as_are_counted(self):
        marks = self.marks(*FIVE, ("order", [2, 4, 0, 1, 3]))
        self.assertEqual(sum(row[0] for row in marks), last(*FIVE, ("order", [2, 4, 0, 1, 3]))[0])
        self.assertTrue(all(len(row) == 1 + 2 * row[0] for row in marks))

    def test_they_change_only_when_all_is_made(self):
        for change in (("cut", 0), ("line", 0, 2, 1), ("line", 0, 1, 50), ("all_sent",)):
            self.assertEqual(self.marks(*ROW, change), self.marks(*ROW))
        self.assertEqual(self.marks(*ROW, ("cut", 0), ("make",)), [[1, 0, 0], [1, 1, 0], [2, 1, 7, 2, 0]])


class ByMarksTest(unittest.TestCase):
    def test_the_distance_in_the_base(self):
        for order in ([0, 1, 2], [1, 0, 2], [2, 1, 0]):
            self.assertEqual(of_pairs("bymarks", *ROW, ("order", order)), [0, 5, 12, 0, 7, 0])
        self.assertEqual(of_pairs("bymarks", *RING), of_pairs("kept", *RING))

    def test_whatever_has_changed(self):
        for change in (("cut", 0), ("cut", 3), ("line", 0, 1, 99), ("line", 1, 3, 1)):
            self.assertEqual(of_pairs("bymarks", *RING, change), of_pairs("kept", *RING))

    def test_no_such_place(self):
        for u, v in NONE_SUCH:
            self.assertTrue(nothing_changed(ROW, ("bymarks", u, v), 3, -2))

    def test_places_in_two_pieces(self):
        made = [*PIECES, ("make",)]
        self.assertTrue(nothing_changed(made, ("bymarks", 1, 2), 4, -33))
        self.assertEqual(of_pairs("bymarks", *made), [0, 5, -33, -33, 0, -33, -33, 0, 5, 0])
        # They hang together by now, but the base doesn't know.
        self.assertEqual(last(*made, ("line", 1, 2, 1), ("bymarks", 1, 2)), [-33])


class ChosenTest(unittest.TestCase):
    def test_nobody(self):
        self.assertEqual(last(*ROW, ("chosen",)), [0])
        self.assertEqual(last(*ROW, ("choose", 5), ("choose", 0), ("chosen",)), [0])

    def test_one(self):
        for v in range(8):
            self.assertEqual(last(("begin", 8), ("choose", 2 ** v), ("chosen",)), [1, v])

    def test_some_and_all(self):
        self.assertEqual(last(("begin", 8), ("choose", 0b10100110), ("chosen",)), [4, 1, 2, 5, 7])
        for places in range(1, 9):
            calls = [("begin", places), ("choose", 2 ** places - 1), ("chosen",)]
            self.assertEqual(last(*calls), [places, *range(places)])

    def test_by_greed(self):
        chosen = {1: [5, 0, 1, 2, 3, 4], 2: [2, 1, 3], 3: [1, 2], 4: [1, 1], 5: [1, 0], 8: [1, 0]}
        for k, expected in chosen.items():
            self.assertEqual(last(*FIVE, ("greedy", k), ("chosen",)), expected)
        self.assertEqual(last(*PIECES, ("greedy", 8), ("chosen",)), [2, 0, 2])

    def test_greed_behind_a_change(self):
        self.assertEqual(last(*FIVE, ("greedy", 5), ("cut", 0), ("chosen",)), [1, 0])
        self.assertEqual(last(*FIVE, ("greedy", 5), ("cut", 0), ("greedy", 5), ("chosen",)), [2, 0, 1])

    def test_what_is_refused_leaves_them(self):
        for call in (("choose", 8), ("greedy", 0), ("greedy", 9), ("begin", 9)):
            self.assertEqual(last(*ROW, ("choose", 6), call, ("chosen",)), [2, 1, 2])


class ByChosenTest(unittest.TestCase):
    # The nearest chosen one of 1 is 0, by 1; that of 2 is 3, by 5.
    BETWEEN = [("begin", 4), ("line", 0, 1, 1), ("line", 1, 2, 10), ("line", 2, 3, 5), ("choose", 9)]

    def test_nobody_chosen(self):
        self.assertEqual(of_pairs("bychosen", *ROW), [0, 5, 12, 0, 7, 0])
        made = [*PIECES, ("make",)]
        self.assertEqual(of_pairs("bychosen", *made), [0, 5, -33, -33, 0, -33, -33, 0, 5, 0])

    def test_round_by_a_chosen_one(self):
        star = [("begin", 4), ("line", 0, 3, 1), ("line", 1, 3, 5), ("line", 2, 3, 5), ("choose", 1)]
        self.assertEqual(of_pairs("bychosen", *star), [0, 6, 6, 1, 0, 12, 5, 0, 5, 0])

    def test_the_lesser_of_two(self):
        self.assertEqual(told(*self.BETWEEN, ("kept", 1, 2), ("bychosen", 1, 2), ("bychosen", 2, 1))[-3:],
                         [[10], [12], [12]])

    def test_each_has_its_own_nearest_one(self):
        # Of 0 and 3 both are chosen: what's told is their distance.
        self.assertEqual(last(*self.BETWEEN, ("bychosen", 0, 3)), [16])
        self.assertEqual(last(*self.BETWEEN, ("bychosen", 0, 2)), [11])
        self.assertEqual(last(*self.BETWEEN, ("choose", 8), ("bychosen", 1, 2)), [10])

    def test_near_one_way_round(self):
        # 4 is chosen: 3 is near 0, since 4 is farther; 0 isn't near 3. By 4 it would be 5.
        chosen = [*FIVE, ("choose", 16)]
        self.assertEqual(told(*chosen, ("bychosen", 0, 3), ("bychosen", 3, 0))[-2:], [[3], [3]])
        self.assertEqual(told(*chosen, ("bychosen", 2, 3), ("bychosen", 3, 2))[-2:], [[1], [1]])

    def test_just_as_far_is_not_near(self):
        # 2 is as far from 1 as the chosen one is, and 1 farther from 2 than 2's chosen one.
        laid = [("begin", 4), ("line", 0, 1, 4), ("line", 1, 2, 4), ("line", 2, 3, 2), ("choose", 9)]
        self.assertEqual(last(*laid, ("bychosen", 1, 2)), [8])
        laid[1] = ("line", 0, 1, 5)
        self.assertEqual(last(*laid, ("bychosen", 1, 2)), [4])

    def test_both_the_same(self):
        for s in range(8):
            for u in range(3):
                self.assertEqual(last(*ROW, ("choose", s), ("bychosen", u, u)), [0])
        self.assertEqual(last(("begin", 1), ("bychosen", 0, 0)), [0])

    def test_all_chosen(self):
        self.assertEqual(of_pairs("bychosen", *ROW, ("choose", 7)), [0, 5, 12, 0, 7, 0])

    def test_two_pieces_of_which_one_has_a_chosen_place(self):
        for s in (1, 2, 3, 4, 8, 12):
            chosen = [*PIECES, ("choose", s)]
            self.assertEqual(of_pairs("bychosen", *chosen), [0, 5, -33, -33, 0, -33, -33, 0, 5, 0])
        self.assertTrue(nothing_changed([*PIECES, ("choose", 1)], ("bychosen", 0, 2), 4, -33))

    def test_no_such_place(self):
        for u, v in NONE_SUCH:
            self.assertTrue(nothing_changed([*ROW, ("choose", 2)], ("bychosen", u, v), 3, -2))

    def test_it_is_of_the_base(self):
        laid = [("begin", 3), ("line", 0, 1, 4), ("line", 1, 2, 4), ("line", 0, 2, 5), ("times", 9)]
        self.assertEqual(last(*laid, ("bychosen", 0, 2)), [8])
        for change in (("cut", 0), ("line", 1, 2, 1), ("line", 0, 3, 1)):
            self.assertEqual(of_pairs("bychosen", *self.BETWEEN, change), of_pairs("bychosen", *self.BETWEEN))


class CompareTest(unittest.TestCase):
    def test_all_five(self):
        self.assertEqual(last(*RING, ("compare", 2, 3)), [0, 1, 3, 3, 3, 3])
        round_about = [("begin", 3), ("line", 0, 1, 5), ("line", 0, 2, 5), ("line", 1, 2, 9), ("choose", 1)]
        self.assertEqual(last(*round_about, ("compare", 1, 2)), [0, 9, 9, 9, 10, 10])

    def test_a_line_cut_that_the_base_has(self):
        self.assertEqual(last(*RING, ("cut", 0), ("compare", 0, 1)), [0, 3, 1, 1, 1, -1])
        self.assertEqual(last(*ROW, ("choose", 1), ("cut", 0), ("compare", 0, 2)), [0, -1, 12, 12, 12, -1])

    def test_a_line_cut_that_the_base_has_not(self):
        self.assertEqual(last(*RING, ("cut", 3), ("compare", 2, 3)), [0, 3, 3, 3, 3, 3])

    def test_a_line_lengthened(self):
        self.assertEqual(last(*RING, ("line", 0, 1, 99), ("compare", 0, 1)), [0, 3, 1, 1, 1, 99])

    def test_a_shorter_line_that_the_base_does_not_know(self):
        self.assertEqual(last(*ROW, ("choose", 1), ("line", 0, 2, 1), ("compare", 0, 2)), [0, 1, 12, 12, 12, 12])

    def test_what_there_is_not(self):
        self.assertEqual(last(*PIECES, ("choose", 15), ("compare", 0, 2)), [0, -1, -1, -1, -1, -1])
        self.assertEqual(last(*ROW, ("compare", 0, 2)), [0, 12, 12, 12, 12, -1])
        self.assertEqual(last(*ROW[:3], ("compare", 0, 2)), [0, 12, -1, -1, -1, -1])

    def test_both_the_same(self):
        for s in range(8):
            for u in range(3):
                self.assertEqual(last(*ROW, ("choose", s), ("compare", u, u)), [0, 0, 0, 0, 0, 0])
        self.assertEqual(last(("begin", 1), ("compare", 0, 0)), [0, 0, 0, 0, 0, 0])

    def test_no_such_place(self):
        for u, v in NONE_SUCH:
            self.assertTrue(nothing_changed(ROW, ("compare", u, v), 3, -2))

    def test_it_tells_what_the_calls_tell(self):
        names = ("dist", "kept", "bymarks", "bychosen", "length")
        for before in (RING, [*RING, ("cut", 0)], [*PIECES, ("choose", 1)], [*FIVE, ("greedy", 2), ("line", 0, 4, 1)]):
            for u, v in pairs(before[0][1]):
                rows = told(*before, ("compare", u, v), *[(name, u, v) for name in names])[-6:]
                alone = [-1 if row == [-33] else row[0] for row in rows[1:]]
                self.assertEqual(rows[0], [0] + alone)
