import unittest

from nearkeptdesk.office import answers
from tests.helper import LARGEST, OTHERS, as_numbers, last, left_as_it_was, looks, nothing_changed, told


class BeginTest(unittest.TestCase):
    def test_from_one_to_eight_places(self):
        for places in range(1, 9):
            self.assertEqual(last(("begin", places)), [0])

    def test_out_of_range(self):
        for places in (0, 9, 10, 65536, LARGEST):
            self.assertEqual(last(("begin", places)), [-22])

    def test_it_has_just_so_many_places(self):
        for places in range(1, 9):
            begun = ("begin", places)
            self.assertEqual(last(begun, ("dist", places - 1, places - 1)), [0])
            self.assertEqual(last(begun, ("dist", places - 1, places)), [-2])

    def test_what_there_is_then(self):
        begun = ("begin", 3)
        self.assertEqual(told(begun, ("lines",), ("base",), ("fresh",)), [[0], [0], [0], [1]])
        self.assertEqual(told(begun, ("state",), ("count",), ("chosen",))[1:], [[3, 0, 1, 0, 0], [0, 0, 0], [0]])
        self.assertEqual(last(begun, ("sizes",)), [4, 0, 3, 3, 0])
        self.assertEqual(last(begun, ("dist", 0, 1)), [-33])
        self.assertEqual(last(begun, ("back",)), [-6])

    def test_t_is_one(self):
        # With t of 2 the way 0, 1, 2 would do in the place of the line from 0 to 2.
        laid = [("begin", 3), ("line", 0, 1, 4), ("line", 1, 2, 4), ("line", 0, 2, 5)]
        self.assertEqual(last(*laid, ("make",)), [3])
        self.assertEqual(last(*laid, ("times", 2)), [2])

    def test_nobody_is_chosen(self):
        laid = [("begin", 2), ("line", 0, 1, 4), ("make",)]
        self.assertEqual(last(*laid, ("send", 0, 1)), [0])

    def test_the_order_is_by_number(self):
        laid = [("begin", 3), ("line", 0, 1, 1), ("line", 0, 2, 1), ("make",)]
        self.assertEqual(last(*laid, ("marks", 2)), [2, 0, 1, 2, 0])

    def test_a_refused_begin_ahead_of_any_other(self):
        for places in (0, 9, LARGEST):
            rows = told(("begin", places), ("lines",), ("begin", 2), ("lines",))
            self.assertEqual(rows, [[-22], [-11], [0], [0]])

    def test_a_refused_begin_behind_one(self):
        before = [("begin", 3), ("line", 0, 1, 4), ("greedy", 2), ("line", 1, 2, 4), ("send", 0, 1)]
        for places in (0, 9, LARGEST):
            self.assertTrue(nothing_changed(before, ("begin", places), 3, -22))

    def test_a_second_begin_begins_all_anew(self):
        before = [
            ("begin", 3), ("line", 0, 1, 4), ("line", 1, 2, 4), ("line", 0, 2, 5), ("times", 3),
            ("order", [2, 1, 0]), ("choose", 5), ("send", 0, 1),
        ]
        behind = [("begin", 4), ("back",)] + looks(4) + [
            ("line", 0, 1, 4), ("line", 1, 2, 4), ("line", 0, 2, 5), ("make",), ("send", 0, 1),
            ("choose", 0),
        ] + looks(4)
        self.assertEqual(told(*before, *behind)[len(before):], told(*behind))


class NotBegunTest(unittest.TestCase):
    def test_every_other_call_before_a_begin(self):
        for call in OTHERS:
            self.assertEqual(told(call, ("begin", 2), ("lines",)), [[-11], [0], [0]])

    def test_every_other_call_behind_a_refused_begin(self):
        for call in OTHERS:
            self.assertEqual(told(("begin", 0), call), [[-22], [-11]])

    def test_it_comes_ahead_of_other_refusals(self):
        calls = [("line", 9, 9, 0), ("cut", LARGEST), ("times", 0), ("order", []), ("choose", LARGEST)]
        calls += [("greedy", 0), ("send", 7, 7), ("dist", LARGEST, 0), ("back",), ("marks", LARGEST)]
        calls += [(name, LARGEST, 0) for name in ("kept", "bymarks", "bychosen", "route", "comes", "length", "compare")]
        self.assertEqual(told(*calls), [[-11]] * 17)

    def test_nothing_of_it_is_kept(self):
        rows = told(("line", 0, 1, 5), ("choose", 1), ("begin", 2), ("lines",), ("back",))
        self.assertEqual(rows, [[-11], [-11], [0], [0], [-6]])


class ReadingTest(unittest.TestCase):
    def test_the_form_of_answers(self):
        self.assertEqual(answers([12]), [1, -11])
        self.assertEqual(answers([0, 2, 1, 1, 0, 7, 10]), [1, 0, 1, 1, 4, 1, 0, 1, 7])
        self.assertEqual(answers([0, 1, 4, 1, 0, 4, 0, 12]), [1, 0, 1, 1, 1, -22, 1, 1])

    def test_every_call_answers(self):
        # How many numbers each answers, where that isn't one alone.
        sizes = {
            "lines": 4, "base": 4, "marks": 3, "chosen": 2, "route": 3, "sizes": 5, "compare": 6, "count": 3,
            "state": 5,
        }
        before = [("begin", 2), ("line", 0, 1, 5), ("choose", 1)]
        for call in OTHERS:
            rows = told(*before, call, ("back",), ("back",))
            self.assertEqual(len(rows[3]), sizes.get(call[0], 1))
            self.assertGreaterEqual(rows[3][0], 0)
            self.assertEqual([len(row) for row in rows[4:]], [1, 1])

    def test_every_call_answers_with_one_place(self):
        for call in OTHERS:
            self.assertGreater(len(last(("begin", 1), call)), 0)

    def test_looking_changes_nothing(self):
        before = [
            ("begin", 3), ("line", 0, 1, 5), ("line", 1, 2, 4), ("order", [2, 0, 1]), ("choose", 2), ("all_sent",),
            ("cut", 0),
        ]
        for call in OTHERS[9:]:
            if call[0] != "back":
                self.assertTrue(left_as_it_was(before, call, 3))
                self.assertEqual(told(*before, call, call)[-1], last(*before, call))

    def test_refused_looks_change_nothing(self):
        before = [("begin", 3), ("line", 0, 1, 5), ("choose", 2), ("all_sent",), ("cut", 0)]
        for call in OTHERS[9:]:
            if len(call) > 1:
                beyond = (call[0], *[LARGEST for number in call[1:]])
                self.assertTrue(nothing_changed(before, beyond, 3, -2))

    def test_a_list_is_left_as_it_was_and_answered_alike(self):
        calls = [("begin", 2)] + OTHERS + OTHERS + [("order", [5] * 12), ("begin", 9)]
        numbers = as_numbers(calls)
        handed = list(numbers)
        first = answers(handed)
        self.assertEqual(handed, numbers)
        self.assertEqual(answers(handed), first)
        self.assertEqual(handed, numbers)

    def test_what_is_given_back_is_the_callers_own(self):
        numbers = [0, 2, 1, 0, 1, 7, 10]
        first = answers(numbers)
        first.clear()
        self.assertEqual(answers(numbers), [1, 0, 1, 1, 4, 1, 0, 1, 7])

    def test_answers_are_whole_numbers(self):
        flat = answers(as_numbers([("begin", 2)] + OTHERS))
        self.assertTrue(all(isinstance(x, int) and not isinstance(x, bool) for x in flat))

    def test_as_many_calls_of_all_kinds_as_there_may_be(self):
        calls = [("begin", 3)] + OTHERS[:-2] * 10 + [("state",), ("count",), ("back",)] * 5
        self.assertEqual(len(calls), 256)
        self.assertEqual(told(*calls)[-15][:1], [3])
        numbers = as_numbers(calls)
        self.assertEqual(answers(numbers), answers(numbers))

    def test_as_many_calls_as_there_may_be(self):
        rows = told(("begin", 8), *[("line", 0, 1, 1 + i % 99) for i in range(255)])
        self.assertEqual(rows[1:], [[1]] * 255)
