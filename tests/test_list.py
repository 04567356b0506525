"""The interface: the list that is handed in, and the list that is given back."""

import unittest

from asking import HIGHEST, ask, flat
from leastchange.facts import answers
from model import model_answers

REFUSED = (
    ("begin", 1), ("begin", HIGHEST), ("deed", 1, 2, 1, 1), ("deed", 0, 0, 0, 0), ("deed", 0, 0, 8, 8),
    ("event", 8, 8, 1, 1), ("event", 0, 0, 1, 1), ("undeed", 2), ("undeed", HIGHEST), ("unevent", 3),
    ("set", 8), ("set", HIGHEST), ("do", 2), ("do", 1), ("weight", 3, 1), ("weight", 0, 101),
    ("base", 2, 0), ("base", 1, 41), ("changes", 0, [3]), ("changes", 2, [0]), ("touches", 3),
    ("touches", 1), ("price", 0, 0, 0, [3]), ("price", 8, 8, 0, [0]), ("price", 0, 0, 0, [0, 1]),
    ("price", 1, 0, 0, [0]), ("least", 1, 3, 0, 5), ("least", 4, 4, 0, 10), ("row", 8, 0, 0, 5),
    ("row", 4, 4, 1, 10), ("costs", 1, 1, 2, 5), ("guarded", 1, 1, 0, 8, 5), ("guarded", 1, 1, 0, 1, 5),
    ("guardrow", 1, 1, 0, 0, 11), ("guardrow", 4, 4, 0, 0, 10), ("free", 1, 1, 0, HIGHEST),
    ("firstfree", HIGHEST, 1, 0), ("firstfree", 4, 4, 1),
)
REFUSALS = [
    [-22], [-22], [-22], [-22], [-22], [-22], [-28], [-2], [-2], [-2], [-22], [-22], [-2], [-6], [-2],
    [-22], [-22], [-22], [-2], [-22], [-2], [-6], [-2], [-22], [-6], [-33], [-22], [-33], [-22], [-33],
    [-22], [-22], [-33], [-22], [-33], [-22], [-22], [-33],
]
BUSY = (
    ("begin", 3), ("deed", 0, 0, 1, 1), ("deed", 4, 4, 1, 0), ("event", 1, 1, 2, 2),
    ("event", 7, 4, 7, 5), ("event", 7, 5, 7, 1), ("weight", 2, 30), ("set", 2),
)
# Each of these asks, and changes nothing.
ASKED = (
    ("least", 1, 1, 0, 10), ("least", 1, 1, 1, 10), ("row", 1, 1, 0, 10), ("row", 1, 1, 1, 10),
    ("costs", 1, 1, 0, 3), ("costs", 1, 1, 1, 3), ("guarded", 1, 1, 0, 6, 10), ("guarded", 1, 1, 1, 6, 10),
    ("guardrow", 1, 1, 0, 6, 10), ("guardrow", 1, 1, 1, 6, 10), ("changes", 0, [0, 2, 0]),
    ("changes", 1, [2, 2, 2]), ("touches", 0), ("touches", 2), ("price", 1, 1, 0, [0]), ("price", 1, 1, 1, [2, 0]),
    ("free", 1, 1, 0, 10), ("free", 1, 1, 1, 10), ("firstfree", 1, 1, 0), ("firstfree", 1, 1, 1),
)
TOLD = [
    [0, 1], [0, 1], [1, 0], [1, 0], [4, -1, 0, 0, 0], [4, -1, 0, 0, 0], [0, 1], [0, 1], [1, 0], [1, 0], [1, 0],
    [0], [1, 0], [0], [0], [0], [2, 1, 2], [2, 1, 2], [1], [1],
]
LOOK = (
    ("now",), ("weights",), ("base", 0, 9), ("base", 1, 9), ("do", 0), ("set", 4), ("do", 1),
    ("undeed", 0), ("unevent", 0), ("base", 1, 1), ("now",),
)


class WhatIsGivenBack(unittest.TestCase):
    def test_how_many_numbers_then_these(self):
        self.assertEqual(answers([0, 2]), [1, 0])
        self.assertEqual(answers([6]), [1, -11])
        self.assertEqual(answers([0, 2, 6, 9]), [1, 0, 1, 0, 3, 2, 1, 1])
        self.assertEqual(
            answers([0, 3, 1, 0, 0, 1, 1, 2, 1, 1, 4, 4, 7, 0, 8, 1, 100, 9, 10, 1, 2, 5, 3]),
            [1, 0, 1, 0, 1, 0, 1, 5, 1, 1, 4, 3, 1, 100, 1, 1, 5, 1, 5])

    def test_a_refusal_is_its_number_alone(self):
        self.assertEqual(answers([8, 0, 0, 9, 0, 6]), [1, -11, 1, -11, 1, -22])
        self.assertEqual(
            answers([0, 2, 3, 0, 4, 0, 7, 0, 5, 4, 10, 2, 0]),
            [1, 0, 1, -2, 1, -2, 1, -2, 1, -22, 1, -22])

    def test_whole_numbers_in_a_list(self):
        told = answers(flat(BUSY + ASKED + LOOK + REFUSED[-20:]))
        self.assertIs(type(told), list)
        for number in told:
            self.assertIs(type(number), int)

    def test_the_form_of_each_answer(self):
        calls = [0, 2, 1, 0, 0, 1, 1]
        for asked, told in (
                ([11, 1, 1, 0, 3], [2, 0, 1]), ([12, 1, 1, 0, 3], [2, 1, 0]), ([13, 1, 1, 0, 3], [5, 4, -1, 0, 0, 0]),
                ([14, 1, 1, 0, 2, 3], [2, 0, 1]), ([15, 1, 1, 0, 2, 3], [2, 1, 0]), ([16, 0, 1, 0], [2, 1, 0]),
                ([17, 0], [2, 1, 0]), ([18, 1, 1, 0, 1, 0], [1, 0]), ([19, 1, 1, 0, 3], [2, 1, 1]),
                ([20, 1, 1, 0], [1, 1]), ([12, 1, 0, 0, 3], [1, 0]), ([15, 1, 0, 0, 3, 3], [1, 0]),
                ([19, 3, 3, 0, 3], [1, 0]), ([11, 2, 2, 0, 3], [1, -33]), ([20, 4, 0, 0], [1, -22])):
            self.assertEqual(answers(calls + asked), [1, 0, 1, 0] + told)
            self.assertEqual(answers(calls + asked + [6]), [1, 0, 1, 0] + told + [1, 0])

    def test_rows_are_read_to_their_end(self):
        self.assertEqual(answers([16, 0, 0, 6]), [1, -11, 1, -11])
        self.assertEqual(answers([16, 0, 3, 0, 2, 0, 0, 2, 6]), [1, -11, 1, 0, 1, 0])
        self.assertEqual(answers([18, 0, 0, 0, 2, 0, 2, 0, 2]), [1, -11, 1, 0])
        self.assertEqual(answers([18, 0, 0, 0, 0, 0, 2]), [1, -11, 1, 0])
        self.assertEqual(answers([18, 0, 0, 0, 12] + [0] * 12 + [0, 2]), [1, -11, 1, 0])
        self.assertEqual(
            answers([0, 2, 16, 0, 0, 18, 0, 0, 0, 0, 16, 1, 2, 0, 0, 18, 0, 0, 1, 12] + [0] * 12 + [6]),
            [1, 0, 1, 0, 1, 0, 1, 0, 1, 0, 1, 0])


class RefusedCalls(unittest.TestCase):
    def test_many_in_a_row_leave_all_as_it_was(self):
        without = ask(*BUSY, *LOOK)
        refused = ask(*BUSY, *REFUSED, *LOOK)
        self.assertEqual(refused[:8], without[:8])
        self.assertEqual(refused[8:-11], REFUSALS)
        self.assertEqual(refused[-11:], without[8:])

    def test_each_of_them_many_times(self):
        without = ask(*BUSY, *LOOK)
        for place, call in enumerate(REFUSED):
            refused = ask(*BUSY, *[call] * 41, *LOOK)
            self.assertEqual(refused[8:49], [REFUSALS[place]] * 41)
            self.assertEqual(refused[49:], without[8:])


class AskingCalls(unittest.TestCase):
    def test_many_in_a_row_leave_all_as_it_was(self):
        without = ask(*BUSY, *LOOK)
        asked = ask(*BUSY, *ASKED, *ASKED, *LOOK)
        self.assertEqual(asked[8:28], TOLD)
        self.assertEqual(asked[28:48], TOLD)
        self.assertEqual(asked[48:], without[8:])

    def test_each_of_them_many_times(self):
        without = ask(*BUSY, *LOOK)
        for place, call in enumerate(ASKED):
            asked = ask(*BUSY, *[call] * 41, *LOOK)
            self.assertEqual(asked[8:49], [TOLD[place]] * 41)
            self.assertEqual(asked[49:], without[8:])


class LongLists(unittest.TestCase):
    def test_sixty_calls(self):
        self.assertEqual(ask(*[("now",)] * 60), [[-11]] * 60)
        self.assertEqual(ask(*[("begin", 5)] * 60), [[0]] * 60)

    def test_sixty_calls_of_many_kinds(self):
        calls = BUSY + REFUSED + (("begin", 2), ("deed", 1, 0, 1, 1), ("event", 2, 0, 2, 2))
        calls = calls + (("do", 0), ("set", 0)) * 5 + (("row", 1, 1, 0, 10),)
        self.assertEqual(len(calls), 60)
        answered = ask(*calls)
        self.assertEqual(len(answered), 60)
        self.assertEqual(answered[46:], [[0], [0], [0]] + [[3], [3]] * 5 + [[1, 0]])

    def test_the_largest_worlds(self):
        # Every choice can be made everywhere, so that as much as can be is come to behind each step.
        deeds = [("deed", 0, 0, fact, fact) for fact in (1, 2, 4, 8, 16)] + [("deed", 0, 0, 31, 0)]
        events = [("event", 31, 31, 16, 0), ("event", 31, 15, 8, 0), ("event", 31, 7, 4, 0)]
        world = [("begin", 5), *deeds, *events]
        for asked in (
                [("least", 31, 3, 1, 10)], [("row", 3, 3, 0, 10)], [("costs", 16, 16, 1, 10)],
                [("guarded", 24, 24, 1, 3, 10)], [("guardrow", 3, 3, 0, 16, 10)], [("free", 0, 0, 0, 10)],
                [("free", 16, 16, 1, 10)], [("firstfree", 28, 28, 0)], [("changes", 1, [0, 1, 2, 3, 4, 5] * 2)],
                [("price", 0, 0, 0, [0, 1, 2, 3, 4, 5] * 2)]):
            calls = world + asked * 50
            self.assertEqual(len(calls), 60)
            expected = model_answers(world + asked)
            self.assertEqual(ask(*calls), expected + expected[-1:] * 49, asked)


class NothingIsKept(unittest.TestCase):
    def test_the_list_is_the_same_afterwards(self):
        for calls in (BUSY + REFUSED + LOOK, BUSY + ASKED + ASKED, (("changes", 0, [1, 2]), ("price", 1, 1, 0, [3]))):
            handed = flat(calls)
            copy = list(handed)
            answers(handed)
            self.assertEqual(handed, copy)

    def test_the_list_is_not_changed_for_a_while_either(self):
        class Watched(list):
            def refuse(self, *given):
                raise RuntimeError("the list was changed")

            append = extend = insert = pop = remove = clear = sort = reverse = refuse
            __setitem__ = __delitem__ = __iadd__ = __imul__ = refuse

        for calls in (BUSY + REFUSED + LOOK, BUSY + ASKED + LOOK):
            handed = flat(calls)
            self.assertEqual(answers(Watched(handed)), answers(handed))

    def test_twice_gives_the_same(self):
        for calls in (BUSY + REFUSED + LOOK, BUSY + ASKED + LOOK):
            handed = flat(calls)
            first = answers(handed)
            self.assertEqual(answers(handed), first)

    def test_one_list_leaves_nothing_for_the_next(self):
        answers(flat(BUSY))
        self.assertEqual(ask(("now",), ("weights",), ("undeed", 0)), [[-11], [-11], [-11]])
        self.assertEqual(
            ask(("begin", 3), ("now",), ("weights",), ("undeed", 0), ("unevent", 0))[1:],
            [[0], [3, 1, 1, 1], [-2], [-2]])

    def test_changing_what_was_given_back_changes_nothing(self):
        handed = flat(BUSY + LOOK)
        first = answers(handed)
        kept = list(first)
        first.clear()
        self.assertEqual(answers(handed), kept)


if __name__ == "__main__":
    unittest.main()
