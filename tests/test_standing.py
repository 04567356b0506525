"""Promise 1: set, now and do."""

import unittest

from asking import HIGHEST, ask, ask_last


class Set(unittest.TestCase):
    def test_it_answers_how_it_stood(self):
        answered = ask(("begin", 3), ("set", 5), ("set", 2), ("set", 2), ("set", 0), ("now",))
        self.assertEqual(answered[1:], [[0], [5], [2], [2], [0]])

    def test_no_state(self):
        for many, states in ((2, (4, 5, 8)), (3, (8, 9, 16)), (5, (32, 33, 64))):
            for state in states + (2147483648, HIGHEST):
                answered = ask(("begin", many), ("set", 3), ("set", state), ("now",))
                self.assertEqual(answered[2:], [[-22], [3]])

    def test_every_state(self):
        for many in (2, 5):
            states = list(range(2 ** many))
            for state in states:
                self.assertEqual(ask(("begin", many), ("set", state), ("now",)), [[0], [0], [state]])

    def test_no_event_happens_by_it(self):
        answered = ask(("begin", 2), ("event", 0, 0, 2, 2), ("set", 1), ("now",))
        self.assertEqual(answered[2:], [[0], [1]])


class Now(unittest.TestCase):
    def test_none_is_so_at_first(self):
        self.assertEqual(ask_last(("begin", 4), ("now",)), [0])

    def test_asking_changes_nothing(self):
        answered = ask(("begin", 2), ("event", 0, 0, 2, 2), ("set", 1), ("now",), ("now",), ("now",))
        self.assertEqual(answered[3:], [[1], [1], [1]])


class Do(unittest.TestCase):
    def test_no_such_deed(self):
        for deed in (0, 1, HIGHEST):
            self.assertEqual(ask_last(("begin", 2), ("do", deed)), [-2])
        for deed in (2, 3, HIGHEST):
            answered = ask(
                ("begin", 2), ("deed", 0, 0, 1, 1), ("deed", 0, 0, 2, 2), ("do", deed), ("now",))
            self.assertEqual(answered[3:], [[-2], [0]])

    def test_waiting_is_no_deed(self):
        answered = ask(
            ("begin", 2), ("deed", 0, 0, 1, 1), ("event", 0, 0, 2, 2), ("do", 1), ("now",), ("do", 0))
        self.assertEqual(answered[3:], [[-2], [0], [3]])

    def test_what_it_needs_is_not_so(self):
        needs_fact_0_alone = ("deed", 3, 1, 4, 4)
        for state, after in ((0, -6), (1, 5), (2, -6), (3, -6), (4, -6), (5, 5), (6, -6), (7, -6)):
            answered = ask(("begin", 3), needs_fact_0_alone, ("set", state), ("do", 0), ("now",))
            self.assertEqual(answered[3:], [[after], [after if after >= 0 else state]])

    def test_no_event_happens_when_it_is_refused(self):
        answered = ask(
            ("begin", 3), ("deed", 1, 1, 4, 4), ("event", 0, 0, 2, 2), ("do", 0), ("do", 5), ("now",))
        self.assertEqual(answered[3:], [[-6], [-2], [0]])

    def test_it_needs_nothing(self):
        for state in range(4):
            self.assertEqual(
                ask_last(("begin", 2), ("deed", 0, 0, 1, 1), ("set", state), ("do", 0)), [state | 1])

    def test_it_makes_some_so_and_some_not_and_all_others_stay(self):
        deed = ("deed", 0, 0, 6, 2)
        for state, after in ((0, 2), (1, 3), (4, 2), (6, 2), (8, 10), (13, 11), (15, 11)):
            answered = ask(("begin", 4), deed, ("set", state), ("do", 0), ("now",))
            self.assertEqual(answered[3:], [[after], [after]])

    def test_it_makes_facts_not_so(self):
        self.assertEqual(ask_last(("begin", 3), ("deed", 0, 0, 5, 0), ("set", 7), ("do", 0)), [2])

    def test_a_deed_that_changes_nothing(self):
        answered = ask(("begin", 2), ("deed", 1, 1, 1, 1), ("set", 3), ("do", 0), ("do", 0), ("now",))
        self.assertEqual(answered[3:], [[3], [3], [3]])

    def test_a_deed_that_changes_nothing_is_a_step_with_events(self):
        answered = ask(
            ("begin", 2), ("deed", 1, 1, 1, 1), ("event", 0, 0, 2, 2), ("set", 1), ("do", 0), ("now",))
        self.assertEqual(answered[4:], [[3], [3]])

    def test_one_deed_behind_another(self):
        answered = ask(
            ("begin", 3), ("deed", 1, 0, 1, 1), ("deed", 1, 1, 3, 2), ("do", 1), ("do", 0), ("do", 0),
            ("do", 1), ("do", 1), ("do", 0))
        self.assertEqual(answered[3:], [[-6], [1], [-6], [2], [-6], [3]])

    def test_every_number_of_a_deed(self):
        deeds = [("deed", 0, 0, 31, number + 1) for number in range(6)]
        for number in range(6):
            self.assertEqual(ask_last(("begin", 5), *deeds, ("do", number)), [number + 1])


class DoWithEvents(unittest.TestCase):
    def test_an_event_whose_needs_are_not_so(self):
        self.assertEqual(
            ask_last(("begin", 3), ("deed", 0, 0, 1, 1), ("event", 2, 2, 4, 4), ("do", 0)), [1])

    def test_an_event_needs_what_the_deed_makes(self):
        self.assertEqual(
            ask_last(("begin", 3), ("deed", 0, 0, 1, 1), ("event", 1, 1, 4, 4), ("do", 0)), [5])

    def test_the_deed_takes_away_what_an_event_needs(self):
        self.assertEqual(
            ask_last(("begin", 3), ("deed", 1, 1, 1, 0), ("event", 1, 1, 4, 4), ("set", 1), ("do", 0)), [0])

    def test_an_event_makes_what_the_next_needs(self):
        answered = ask(
            ("begin", 4), ("deed", 0, 0, 1, 1), ("event", 1, 1, 2, 2), ("event", 2, 2, 4, 4),
            ("event", 4, 4, 8, 8), ("do", 0))
        self.assertEqual(answered[5], [15])

    def test_an_event_makes_what_the_one_ahead_needs(self):
        answered = ask(
            ("begin", 4), ("deed", 0, 0, 1, 1), ("event", 4, 4, 8, 8), ("event", 2, 2, 4, 4),
            ("event", 1, 1, 2, 2), ("do", 0), ("do", 0), ("do", 0))
        self.assertEqual(answered[5:], [[3], [7], [15]])

    def test_an_event_takes_away_what_the_next_needs(self):
        answered = ask(
            ("begin", 3), ("deed", 0, 0, 1, 1), ("event", 1, 1, 1, 0), ("event", 1, 1, 4, 4), ("do", 0))
        self.assertEqual(answered[4], [0])

    def test_an_event_undoes_what_the_deed_made(self):
        answered = ask(
            ("begin", 2), ("deed", 0, 0, 1, 1), ("event", 1, 1, 1, 0), ("set", 2), ("do", 0), ("now",))
        self.assertEqual(answered[4:], [[2], [2]])

    def test_events_do_not_let_a_deed_be_done(self):
        # What it needs must be so ahead of the step, not by an event within it.
        answered = ask(("begin", 2), ("deed", 1, 1, 2, 2), ("event", 0, 0, 1, 1), ("do", 0), ("now",))
        self.assertEqual(answered[3:], [[-6], [0]])

    def test_each_event_happens_once_a_step(self):
        flip = (("event", 3, 0, 3, 1), ("event", 3, 2, 3, 0), ("event", 3, 1, 3, 2))
        answered = ask(("begin", 3), ("deed", 0, 0, 4, 4), *flip, ("do", 0), ("do", 0), ("do", 0))
        self.assertEqual(answered[5:], [[6], [4], [6]])


if __name__ == "__main__":
    unittest.main()
