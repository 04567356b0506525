"""Promise 1: begin, and what is answered before it."""

import unittest

from asking import HIGHEST, ask, ask_last

EVERY_OTHER_CALL = (
    ("deed", 1, 1, 2, 2), ("event", 1, 1, 2, 2), ("undeed", 0), ("unevent", 0),
    ("set", 1), ("now",), ("do", 0), ("weight", 0, 1), ("weights",), ("base", 0, 0),
    ("least", 1, 1, 0, 1), ("row", 1, 1, 0, 1), ("costs", 1, 1, 0, 1),
    ("guarded", 1, 1, 0, 2, 1), ("guardrow", 1, 1, 0, 2, 1), ("changes", 0, [0, 0, 0]),
    ("touches", 0), ("price", 1, 1, 0, [0, 0]), ("free", 1, 1, 0, 1), ("firstfree", 1, 1, 0),
)

# Each of these would be refused with another number behind a begin.
EVERY_OTHER_CALL_WRONG = (
    ("deed", 0, 1, 0, 1), ("event", 0, 1, 0, 1), ("undeed", HIGHEST), ("unevent", HIGHEST),
    ("set", HIGHEST), ("do", HIGHEST), ("weight", HIGHEST, HIGHEST), ("base", 2, 41),
    ("least", 0, 1, 2, 11), ("row", 0, 1, 2, 11), ("costs", 0, 1, 2, 11),
    ("guarded", 0, 1, 2, 99, 11), ("guardrow", 0, 1, 2, 99, 11), ("changes", 2, []),
    ("changes", 2, [HIGHEST] * 12), ("touches", HIGHEST), ("price", 0, 1, 2, []),
    ("price", 0, 1, 2, [HIGHEST] * 12), ("free", 0, 1, 2, 11), ("firstfree", 0, 1, 2),
)


class BeginAnswers(unittest.TestCase):
    def test_from_two_to_five_facts(self):
        for many in (2, 3, 4, 5):
            self.assertEqual(ask(("begin", many)), [[0]])

    def test_no_other_number_of_facts(self):
        for many in (0, 1, 6, 7, 100, HIGHEST):
            self.assertEqual(ask(("begin", many)), [[-22]])

    def test_so_many_facts_each_of_weight_one(self):
        for many in (2, 3, 4, 5):
            self.assertEqual(ask_last(("begin", many), ("weights",)), [many] + [1] * many)

    def test_the_highest_state_is_that_of_all_facts(self):
        for many in (2, 3, 4, 5):
            answered = ask(("begin", many), ("set", 2 ** many), ("set", 2 ** many - 1), ("now",))
            self.assertEqual(answered[1:], [[-22], [0], [2 ** many - 1]])

    def test_none_is_so_and_there_are_no_deeds_and_no_events(self):
        self.assertEqual(
            ask(("begin", 3), ("now",), ("undeed", 0), ("unevent", 0), ("do", 0), ("base", 1, 40)),
            [[0], [0], [-2], [-2], [-2], [0]])


class BeforeABegin(unittest.TestCase):
    def test_every_other_call_alone(self):
        for call in EVERY_OTHER_CALL + EVERY_OTHER_CALL_WRONG:
            self.assertEqual(ask(call), [[-11]], call)

    def test_every_other_call_behind_a_refused_begin(self):
        for many in (1, 6):
            for call in EVERY_OTHER_CALL + EVERY_OTHER_CALL_WRONG:
                self.assertEqual(ask(("begin", many), call), [[-22], [-11]], call)

    def test_all_other_calls_in_one_list(self):
        self.assertEqual(ask(*EVERY_OTHER_CALL), [[-11]] * 20)
        self.assertEqual(ask(*EVERY_OTHER_CALL_WRONG), [[-11]] * 20)

    def test_the_call_behind_each_of_them_is_read(self):
        for call in EVERY_OTHER_CALL + EVERY_OTHER_CALL_WRONG:
            self.assertEqual(ask(call, ("begin", 2), ("now",)), [[-11], [0], [0]], call)

    def test_what_was_refused_before_a_begin_changes_nothing(self):
        answered = ask(
            ("set", 3), ("weight", 0, 9), ("deed", 0, 0, 1, 1), ("event", 0, 0, 1, 1),
            ("begin", 2), ("now",), ("weights",), ("undeed", 0), ("unevent", 0))
        self.assertEqual(answered, [[-11]] * 4 + [[0], [0], [2, 1, 1], [-2], [-2]])

    def test_a_begin_behind_a_refused_one(self):
        self.assertEqual(
            ask(("begin", 1), ("now",), ("begin", 2), ("now",)), [[-22], [-11], [0], [0]])


class BeginComesAgain(unittest.TestCase):
    BUSY = (
        ("begin", 3), ("deed", 0, 0, 1, 1), ("deed", 0, 0, 2, 2), ("event", 0, 0, 4, 4),
        ("weight", 1, 50), ("set", 2),
    )

    def test_all_is_as_new(self):
        answered = ask(
            *self.BUSY, ("begin", 4), ("now",), ("weights",), ("undeed", 0), ("unevent", 0),
            ("base", 1, 1), ("set", 15))
        self.assertEqual(answered[6:], [[0], [0], [4, 1, 1, 1, 1], [-2], [-2], [0], [0]])

    def test_all_is_as_new_with_as_many_facts(self):
        answered = ask(*self.BUSY, ("begin", 3), ("now",), ("weights",), ("do", 0), ("base", 1, 1))
        self.assertEqual(answered[6:], [[0], [0], [3, 1, 1, 1], [-2], [0]])

    def test_fewer_facts(self):
        answered = ask(*self.BUSY, ("begin", 2), ("set", 4), ("weight", 2, 1), ("deed", 4, 4, 1, 1))
        self.assertEqual(answered[6:], [[0], [-22], [-2], [-22]])

    def test_a_refused_one_changes_nothing(self):
        for many in (0, 1, 6, HIGHEST):
            answered = ask(
                *self.BUSY, ("begin", many), ("now",), ("weights",), ("base", 1, 1), ("do", 0),
                ("undeed", 1), ("unevent", 0), ("set", 8), ("set", 7))
            self.assertEqual(
                answered[6:],
                [[-22], [2], [3, 1, 50, 1], [6], [7], [1], [0], [-22], [7]])


if __name__ == "__main__":
    unittest.main()
