"""Promise 1: base, what it is held against."""

import unittest

from asking import HIGHEST, ask, ask_last

SOME_EVENTS = (("event", 3, 3, 7, 4), ("event", 7, 1, 7, 2), ("event", 7, 2, 7, 3))


class Base(unittest.TestCase):
    def test_how_it_stands_now(self):
        for steps in (0, 1, 5, 40):
            answered = ask(("begin", 3), ("event", 0, 0, 2, 2), ("set", 5), ("base", 0, steps))
            self.assertEqual(answered[3], [5])

    def test_how_it_would_stand_by_waiting(self):
        calls = [("base", 1, steps) for steps in range(6)]
        chain = (("event", 4, 4, 8, 8), ("event", 2, 2, 4, 4), ("event", 1, 1, 2, 2))
        answered = ask(("begin", 5), *chain, ("set", 1), *calls)
        self.assertEqual(answered[5:], [[1], [3], [7], [15], [15], [15]])

    def test_events_in_order_within_a_step(self):
        chain = (("event", 1, 1, 2, 2), ("event", 2, 2, 4, 4), ("event", 4, 4, 8, 8))
        answered = ask(("begin", 5), *chain, ("set", 1), ("base", 1, 0), ("base", 1, 1))
        self.assertEqual(answered[5:], [[1], [15]])

    def test_none_and_forty_steps(self):
        turns = ("event", 3, 0, 3, 1), ("event", 3, 2, 3, 0), ("event", 3, 1, 3, 2)
        answered = ask(
            ("begin", 2), *turns, ("base", 1, 0), ("base", 1, 1), ("base", 1, 2), ("base", 1, 39),
            ("base", 1, 40), ("base", 0, 0), ("base", 0, 40))
        self.assertEqual(answered[4:], [[0], [2], [0], [2], [0], [0], [0]])

    def test_what_is_refused(self):
        for by_itself, steps in (
                (2, 0), (3, 1), (HIGHEST, 0), (0, 41), (1, 41), (0, HIGHEST), (1, HIGHEST), (2, 41),
                (HIGHEST, HIGHEST)):
            answered = ask(("begin", 2), ("set", 1), ("base", by_itself, steps), ("now",))
            self.assertEqual(answered[2:], [[-22], [1]])

    def test_without_events_both_are_the_same(self):
        for state in range(8):
            for steps in (0, 1, 7, 40):
                answered = ask(
                    ("begin", 3), ("deed", 0, 0, 1, 1), ("set", state), ("base", 0, steps),
                    ("base", 1, steps))
                self.assertEqual(answered[3:], [[state], [state]])

    def test_deeds_are_not_done(self):
        self.assertEqual(ask_last(("begin", 2), ("deed", 0, 0, 3, 3), ("base", 1, 40)), [0])

    def test_asking_changes_nothing(self):
        answered = ask(
            ("begin", 2), ("event", 1, 0, 1, 1), ("weight", 1, 9), ("set", 2), ("base", 1, 40),
            ("now",), ("base", 1, 1), ("base", 0, 1), ("base", 1, 0), ("now",), ("weights",),
            ("unevent", 0))
        self.assertEqual(
            answered[4:], [[3], [2], [3], [2], [2], [2], [2, 1, 9], [0]])

    def test_now_is_where_it_has_come_to(self):
        answered = ask(
            ("begin", 3), ("deed", 0, 0, 1, 1), ("event", 1, 1, 2, 2), ("event", 2, 2, 4, 4),
            ("base", 1, 40), ("do", 0), ("base", 0, 40), ("base", 1, 1), ("set", 2), ("base", 0, 3),
            ("base", 1, 3))
        self.assertEqual(answered[4:], [[0], [7], [7], [7], [7], [2], [6]])

    def test_one_step_by_waiting_is_a_step_by_a_deed_that_changes_nothing(self):
        for state in range(8):
            answered = ask(
                ("begin", 3), *SOME_EVENTS, ("deed", 0, 0, 1, state & 1), ("set", state),
                ("base", 1, 1), ("do", 0))
            self.assertEqual(answered[6], answered[7])


if __name__ == "__main__":
    unittest.main()
