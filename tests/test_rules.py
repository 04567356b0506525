"""Promise 1: deed, event, undeed and unevent."""

import unittest

from asking import HIGHEST, ask, ask_last

# a, b, c, d with three facts.
TOLD_WELL = (
    (0, 0, 1, 0), (0, 0, 1, 1), (7, 0, 7, 0), (7, 7, 7, 7), (7, 5, 6, 2), (4, 4, 4, 4), (1, 0, 6, 4),
)
TOLD_WRONG = {
    "b is not within a": ((1, 2, 4, 4), (0, 1, 4, 4), (3, 4, 4, 4), (5, 7, 1, 1), (1, HIGHEST, 1, 1)),
    "c is empty": ((1, 1, 0, 0), (0, 0, 0, 0), (7, 7, 0, 0)),
    "d is not within c": ((1, 1, 1, 2), (1, 1, 2, 3), (0, 0, 4, 1), (0, 0, 0, 1), (1, 1, 1, HIGHEST)),
    "other facts than there are": (
        (8, 0, 1, 1), (8, 8, 1, 1), (9, 1, 1, 1), (0, 0, 8, 0), (0, 0, 8, 8), (0, 0, 9, 1),
        (HIGHEST, 0, 1, 1), (HIGHEST, HIGHEST, 1, 1), (0, 0, HIGHEST, 0),
        (0, 0, HIGHEST, HIGHEST), (HIGHEST, HIGHEST, HIGHEST, HIGHEST), (2147483648, 0, 1, 1),
    ),
}


class Told(unittest.TestCase):
    def test_one_more_with_its_number(self):
        for name, most in (("deed", 6), ("event", 3)):
            calls = [(name, 0, 0, 1, 1)] * most
            self.assertEqual(ask(("begin", 3), *calls)[1:], [[number] for number in range(most)])

    def test_deeds_and_events_are_numbered_apart(self):
        answered = ask(
            ("begin", 2), ("deed", 0, 0, 1, 1), ("event", 0, 0, 2, 2), ("deed", 0, 0, 2, 2),
            ("event", 0, 0, 1, 1))
        self.assertEqual(answered[1:], [[0], [0], [1], [1]])

    def test_told_well(self):
        for name in ("deed", "event"):
            for sets in TOLD_WELL:
                self.assertEqual(ask_last(("begin", 3), (name,) + sets), [0], sets)

    def test_told_wrong(self):
        for name in ("deed", "event"):
            for why in TOLD_WRONG:
                for sets in TOLD_WRONG[why]:
                    self.assertEqual(ask_last(("begin", 3), (name,) + sets), [-22], (why, sets))

    def test_which_facts_there_are_comes_with_begin(self):
        for name in ("deed", "event"):
            for many in (2, 3, 4, 5):
                highest = 2 ** (many - 1)
                answered = ask(
                    ("begin", many), (name, highest, highest, highest, highest),
                    (name, 2 * highest, 0, 1, 1), (name, 0, 0, 2 * highest, 0))
                self.assertEqual(answered[1:], [[0], [-22], [-22]])

    def test_one_too_many(self):
        for name, most in (("deed", 6), ("event", 3)):
            calls = [(name, 0, 0, 1, 1)] * (most + 2)
            answered = ask(("begin", 2), *calls, ("un" + name, 0))
            self.assertEqual(answered[most + 1:], [[-28], [-28], [most - 1]])

    def test_told_wrong_comes_ahead_of_too_many(self):
        for name, most in (("deed", 6), ("event", 3)):
            calls = [(name, 0, 0, 1, 1)] * most
            for sets in ((0, 1, 1, 1), (0, 0, 0, 0), (0, 0, 1, 2), (4, 0, 1, 1), (0, 0, 4, 4)):
                self.assertEqual(ask_last(("begin", 2), *calls, (name,) + sets), [-22])

    def test_room_again_when_one_is_taken_out(self):
        for name, most in (("deed", 6), ("event", 3)):
            calls = [(name, 0, 0, 1, 1)] * most
            answered = ask(
                ("begin", 2), *calls, ("un" + name, 0), (name, 0, 0, 1, 1), (name, 0, 0, 1, 1))
            self.assertEqual(answered[most + 1:], [[most - 1], [most - 1], [-28]])

    def test_six_deeds_leave_room_for_three_events(self):
        answered = ask(
            ("begin", 2), *[("deed", 0, 0, 1, 1)] * 6, *[("event", 0, 0, 1, 1)] * 3,
            ("event", 0, 0, 1, 1), ("deed", 0, 0, 1, 1))
        self.assertEqual(answered[7:], [[0], [1], [2], [-28], [-28]])

    def test_refused_ones_are_not_kept(self):
        for name in ("deed", "event"):
            answered = ask(("begin", 3), (name, 1, 2, 1, 1), (name, 0, 0, 0, 0), ("un" + name, 0))
            self.assertEqual(answered[1:], [[-22], [-22], [-2]])

    def test_telling_one_does_not_change_how_it_stands(self):
        answered = ask(
            ("begin", 2), ("set", 2), ("deed", 0, 0, 3, 1), ("event", 0, 0, 3, 1), ("now",))
        self.assertEqual(answered[4], [2])


class DeedsTakenOut(unittest.TestCase):
    # Each deed makes all four facts tell which one it is.
    FOUR = (
        ("begin", 4), ("deed", 0, 0, 15, 1), ("deed", 0, 0, 15, 2), ("deed", 0, 0, 15, 4),
        ("deed", 0, 0, 15, 8),
    )

    def states_when_out(self, place):
        answered = ask(*self.FOUR, ("undeed", place), ("do", 0), ("do", 1), ("do", 2), ("do", 3))
        self.assertEqual(answered[5], [3])
        return answered[6:]

    def test_no_such_deed(self):
        for place in (4, 5, HIGHEST):
            self.assertEqual(ask(*self.FOUR, ("undeed", place), ("do", 3))[5:], [[-2], [8]])
        self.assertEqual(ask_last(("begin", 2), ("undeed", 0)), [-2])
        self.assertEqual(ask_last(("begin", 2), ("event", 0, 0, 1, 1), ("undeed", 0)), [-2])

    def test_the_first(self):
        self.assertEqual(self.states_when_out(0), [[2], [4], [8], [-2]])

    def test_a_middle_one(self):
        self.assertEqual(self.states_when_out(1), [[1], [4], [8], [-2]])
        self.assertEqual(self.states_when_out(2), [[1], [2], [8], [-2]])

    def test_the_last(self):
        self.assertEqual(self.states_when_out(3), [[1], [2], [4], [-2]])

    def test_one_by_one_until_none_is_left(self):
        calls = [("undeed", 0)] * 5
        self.assertEqual(ask(*self.FOUR, *calls)[5:], [[3], [2], [1], [0], [-2]])

    def test_events_stay(self):
        answered = ask(("begin", 2), ("deed", 0, 0, 1, 1), ("event", 0, 0, 2, 2), ("undeed", 0), ("base", 1, 1))
        self.assertEqual(answered[3:], [[0], [2]])


class EventsTakenOut(unittest.TestCase):
    # The events build upon one another, so their order and number show.
    THREE = (
        ("begin", 4), ("deed", 0, 0, 1, 1), ("event", 1, 1, 2, 2), ("event", 2, 2, 4, 4),
        ("event", 1, 1, 8, 8),
    )

    def test_no_such_event(self):
        for place in (3, 4, HIGHEST):
            self.assertEqual(ask(*self.THREE, ("unevent", place), ("do", 0))[5:], [[-2], [15]])
        self.assertEqual(ask_last(("begin", 2), ("unevent", 0)), [-2])
        self.assertEqual(ask_last(("begin", 2), ("deed", 0, 0, 1, 1), ("unevent", 0)), [-2])

    def test_the_first(self):
        self.assertEqual(ask(*self.THREE, ("unevent", 0), ("do", 0))[5:], [[2], [9]])

    def test_a_middle_one(self):
        self.assertEqual(ask(*self.THREE, ("unevent", 1), ("do", 0))[5:], [[2], [11]])

    def test_the_last(self):
        self.assertEqual(ask(*self.THREE, ("unevent", 2), ("do", 0))[5:], [[2], [7]])

    def test_those_behind_it_are_numbered_one_less(self):
        self.assertEqual(
            ask(*self.THREE, ("unevent", 0), ("unevent", 1), ("do", 0))[5:], [[2], [1], [1]])
        self.assertEqual(
            ask(*self.THREE, ("unevent", 0), ("unevent", 0), ("do", 0))[5:], [[2], [1], [9]])
        self.assertEqual(
            ask(*self.THREE, ("unevent", 0), ("unevent", 2), ("do", 0))[5:], [[2], [-2], [9]])

    def test_one_told_anew_comes_last(self):
        answered = ask(*self.THREE, ("unevent", 0), ("event", 1, 1, 2, 2), ("do", 0), ("do", 0))
        self.assertEqual(answered[5:], [[2], [2], [11], [15]])

    def test_deeds_stay(self):
        self.assertEqual(
            ask(*self.THREE, ("unevent", 0), ("unevent", 0), ("unevent", 0), ("unevent", 0), ("do", 0))[5:],
            [[2], [1], [0], [-2], [1]])


if __name__ == "__main__":
    unittest.main()
