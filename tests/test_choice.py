import unittest

from nearkeptdesk.choice import chosen_by_greed, is_near, k_nearest, nearest_chosen
from nearkeptdesk.ways import distances
from tests.helper import LARGEST, firsts, last, nothing_changed, told

ROW = [("begin", 3), ("line", 0, 1, 5), ("line", 1, 2, 7)]
FIVE = [("begin", 5)] + [("line", place, place + 1, 1) for place in range(4)]
FIVE_FAR = distances(5, [(1, place, place + 1) for place in range(4)])
PIECES = [("begin", 4), ("line", 0, 1, 5), ("line", 2, 3, 5)]


class ChooseTest(unittest.TestCase):
    def test_how_many_entries(self):
        # Of s: 0 has all near one another; 1 leaves 1 and 2 two entries and one; 2 one each for 0 and 2.
        entries = {0: 6, 1: 3, 2: 2, 7: 6}
        for s, count in entries.items():
            self.assertEqual(last(*ROW, ("choose", s)), [count])

    def test_all_and_one_more(self):
        for places in range(1, 9):
            begun = [("begin", places)]
            self.assertEqual(last(*begun, ("choose", 2 ** places - 1)), [0])
            for s in (2 ** places, 2 ** places + 1, LARGEST):
                self.assertTrue(nothing_changed(begun, ("choose", s), places, -22))

    def test_a_refused_one_leaves_the_choice(self):
        before = [*ROW, ("choose", 2)]
        self.assertTrue(nothing_changed(before, ("choose", 8), 3, -22))
        self.assertEqual(last(*before, ("choose", 8), ("send", 0, 2)), [1])

    def test_nobody_chosen(self):
        self.assertEqual(last(*PIECES, ("choose", 0)), [4])
        self.assertEqual(last(*FIVE, ("choose", 0)), [20])
        self.assertEqual(last(("begin", 1), ("choose", 0)), [0])

    def test_a_land_in_two_pieces(self):
        # In the piece without a chosen one both are near one another; in the other one 1 knows 0.
        self.assertEqual(last(*PIECES, ("choose", 1)), [3])
        self.assertEqual(last(*PIECES, ("choose", 5)), [2])
        self.assertEqual(last(*PIECES, ("choose", 15)), [4])

    def test_entries_are_of_the_base(self):
        # In the land 2 is nearer to 0 than 1 is; the base of t 9 knows only the way by 1.
        laid = [("begin", 3), ("line", 0, 1, 4), ("line", 1, 2, 4), ("line", 0, 2, 5), ("times", 9)]
        self.assertEqual(told(*laid, ("choose", 2), ("base",))[-2:], [[2], [2, 0, 1, 4, 1, 2, 4]])

    def test_all_is_made_anew(self):
        calls = [("begin", 2), ("choose", 1), ("line", 0, 1, 5), ("choose", 1), ("cut", 0), ("choose", 1)]
        self.assertEqual(firsts(*calls), [0, 0, 1, 1, 0, 0])

    def test_the_choice_stays(self):
        for call in (("times", 2), ("order", [2, 1, 0]), ("make",)):
            self.assertEqual(last(("begin", 3), ("choose", 2), *ROW[1:], call, ("send", 0, 2)), [1])

    def test_nearest_of_like_ones_the_least(self):
        self.assertEqual([nearest_chosen(FIVE_FAR, 17, place) for place in range(5)], [0, 0, 0, 4, 4])
        self.assertEqual([nearest_chosen(FIVE_FAR, 0, place) for place in range(5)], [None] * 5)
        far = distances(4, [(5, 0, 1), (5, 2, 3)])
        self.assertEqual([nearest_chosen(far, 2, place) for place in range(4)], [1, 1, None, None])

    def test_who_is_near(self):
        nearest = [nearest_chosen(FIVE_FAR, 16, place) for place in range(5)]
        near = [[other for other in range(5) if is_near(FIVE_FAR, nearest, place, other)] for place in range(5)]
        self.assertEqual(near, [[0, 1, 2, 3], [0, 1, 2, 3], [1, 2, 3], [3], []])
        far = distances(4, [(5, 0, 1), (5, 2, 3)])
        near = [[other for other in range(4) if is_near(far, [0, 0, None, None], place, other)] for place in range(4)]
        self.assertEqual(near, [[], [1], [2, 3], [2, 3]])


class GreedyTest(unittest.TestCase):
    def test_out_of_range(self):
        before = [*ROW, ("choose", 2)]
        for k in (0, 9, 10, LARGEST):
            self.assertTrue(nothing_changed(before, ("greedy", k), 3, -22))

    def test_one_to_eight(self):
        for k in range(1, 9):
            self.assertEqual(last(("begin", 1), ("greedy", k)), [0])

    def test_how_many_entries(self):
        self.assertEqual(last(*FIVE, ("greedy", 1)), [20])
        # 2 alone is chosen: four know it, 1 knows 0, and 3 knows 4.
        self.assertEqual(last(*FIVE, ("greedy", 3)), [6])
        self.assertEqual(last(*FIVE, ("greedy", 2)), last(*FIVE, ("choose", 10)))
        self.assertEqual(last(*FIVE, ("greedy", 8)), last(*FIVE, ("choose", 1)))

    def test_who_is_chosen(self):
        self.assertEqual([chosen_by_greed(FIVE_FAR, k) for k in range(1, 9)], [31, 10, 4, 2, 1, 1, 1, 1])

    def test_of_like_ones_the_least(self):
        self.assertEqual(chosen_by_greed(distances(2, [(9, 0, 1)]), 2), 1)
        self.assertEqual(chosen_by_greed(distances(4, [(1, 0, 3), (1, 1, 2)]), 2), 3)

    def test_a_land_in_two_pieces(self):
        self.assertEqual(chosen_by_greed(distances(4, [(5, 0, 1), (5, 2, 3)]), 8), 5)
        self.assertEqual(last(*PIECES, ("greedy", 8)), [2])
        self.assertEqual(last(("begin", 8), ("greedy", 8)), [0])

    def test_the_k_nearest(self):
        self.assertEqual(k_nearest(FIVE_FAR, 3, 2), [2, 1, 3])
        self.assertEqual(k_nearest(FIVE_FAR, 2, 4), [4, 3])
        self.assertEqual(k_nearest(FIVE_FAR, 1, 4), [4])
        far = distances(4, [(1, 0, 3), (9, 0, 1)])
        self.assertEqual(k_nearest(far, 8, 0), [0, 3, 1])
        self.assertEqual(k_nearest(far, 8, 2), [2])

    def test_those_chosen_before_do_not_count(self):
        for s in (0, 1, 31):
            self.assertEqual(last(*FIVE, ("choose", s), ("greedy", 3)), [6])
        self.assertEqual(firsts(*FIVE, ("greedy", 1), ("greedy", 3), ("greedy", 3))[-3:], [20, 6, 6])

    def test_greed_behind_a_change_is_in_the_base_as_made_anew(self):
        # The base before has no lines: in that one each place would be chosen.
        self.assertEqual(told(*FIVE, ("base",), ("greedy", 3), ("base",))[-3:-1], [[0], [6]])
        # Behind the cut of the line from 0 to 1, 0 stands alone: it's chosen, as well as one of the rest.
        rows = told(*FIVE, ("make",), ("cut", 0), ("greedy", 5), ("send", 4, 1), ("send", 1, 0))
        self.assertEqual(rows[-2:], [[1], [0]])

    def test_greed_stays_as_it_was_chosen(self):
        # Only 0 was chosen where all hung together; made anew behind a cut, the rest has nobody.
        calls = [*FIVE, ("greedy", 5), ("send", 4, 1), ("cut", 0), ("make",), ("send", 4, 1)]
        self.assertEqual([firsts(*calls)[6], firsts(*calls)[-1]], [1, 0])
