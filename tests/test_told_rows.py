"""Promise 4: changes, touches and price."""

import unittest

from asking import HIGHEST, ask, ask_last
from worlds import THREE_DEEDS, WEIGHED, WITH_EVENTS


class Changes(unittest.TestCase):
    def test_which_facts_are_otherwise(self):
        for row, facts in (
                ([], []), ([3], []), ([0], [0]), ([0, 1], [0, 1]), ([0, 1, 2], [1]), ([0, 2], []),
                ([2], []), ([0, 3, 1, 3, 2], [1])):
            for by_itself in (0, 1):
                answered = ask_last(*THREE_DEEDS, ("changes", by_itself, row))
                self.assertEqual(answered, [len(facts)] + facts, row)

    def test_held_against_now_or_what_comes_by_itself(self):
        for row, against_now, by_itself in (
                ([], [], []), ([3], [3], []), ([3, 3], [2, 3], []), ([0], [0, 3], [0]),
                ([0, 1], [0, 1, 2, 3], [0, 1]), ([0, 2], [2, 3], []), ([3] * 12, [2, 3], [])):
            self.assertEqual(
                ask_last(*WITH_EVENTS, ("changes", 0, row)), [len(against_now)] + against_now)
            self.assertEqual(
                ask_last(*WITH_EVENTS, ("changes", 1, row)), [len(by_itself)] + by_itself)

    def test_as_many_steps_by_itself(self):
        # Fact 1 turns with each step, so one step more or less would show.
        turning = (
            ("begin", 3), ("deed", 0, 0, 4, 4), ("event", 3, 0, 3, 1), ("event", 3, 2, 3, 0),
            ("event", 3, 1, 3, 2))
        for steps in range(13):
            self.assertEqual(ask_last(*turning, ("changes", 1, [1] * steps)), [0])
            self.assertEqual(
                ask_last(*turning, ("changes", 0, [1] * steps)), [1, 1] if steps % 2 else [0])

    def test_a_row_that_ends_early(self):
        for row, facts in (
                ([1], []), ([1, 0], []), ([0, 0, 1], [0]), ([0, 2, 1, 0, 1], []), ([2, 0, 1, 0, 2], [0, 1])):
            self.assertEqual(ask_last(*THREE_DEEDS, ("changes", 0, row)), [len(facts)] + facts, row)

    def test_a_row_that_ends_early_is_held_against_as_many_steps_as_were_done(self):
        counting = (
            ("begin", 3), ("deed", 4, 4, 4, 0), ("event", 3, 3, 7, 7), ("event", 3, 1, 3, 3), ("event", 3, 0, 3, 1))
        answered = ask(
            *counting, *[("base", 1, steps) for steps in range(4)], ("changes", 1, [1, 0, 1]),
            ("changes", 1, [1, 1, 1, 0, 1]), ("changes", 0, [1, 0, 1]))
        self.assertEqual(answered[5:], [[0], [1], [3], [7], [0], [0], [1, 0]])

    def test_no_such_choice(self):
        for row in ([4], [HIGHEST], [3, 4], [0, 1, HIGHEST], [4] * 12, [3] * 11 + [4]):
            for by_itself in (0, 1):
                self.assertEqual(ask_last(*THREE_DEEDS, ("changes", by_itself, row)), [-2])

    def test_no_such_choice_behind_one_that_cannot_be_done(self):
        self.assertEqual(ask_last(*THREE_DEEDS, ("changes", 0, [1, 4])), [-2])

    def test_held_against_neither(self):
        for by_itself in (2, 3, HIGHEST):
            for row in ([], [0], [1], [3] * 12):
                self.assertEqual(ask_last(*THREE_DEEDS, ("changes", by_itself, row)), [-22])

    def test_no_such_choice_comes_first(self):
        self.assertEqual(ask_last(*THREE_DEEDS, ("changes", 2, [4])), [-2])

    def test_waiting_is_the_only_choice_without_deeds(self):
        answered = ask(
            ("begin", 2), ("event", 0, 0, 2, 2), ("changes", 0, [0]), ("changes", 0, [1]), ("changes", 1, [0, 0]))
        self.assertEqual(answered[2:], [[1, 1], [-2], [0]])

    def test_asking_changes_nothing(self):
        answered = ask(*WITH_EVENTS, ("changes", 0, [0, 1]), ("now",), ("changes", 0, [0, 1]), ("weights",))
        self.assertEqual(answered[6:], [[4, 0, 1, 2, 3], [0], [4, 0, 1, 2, 3], [4, 1, 1, 1, 1]])

    def test_from_how_it_stands_now(self):
        answered = ask(*THREE_DEEDS, ("set", 3), ("changes", 0, [0]), ("changes", 0, [1]), ("changes", 0, [2]))
        self.assertEqual(answered[5:], [[0], [0], [1, 0]])


class Touches(unittest.TestCase):
    def test_which_facts_are_otherwise_than_by_waiting(self):
        self.assertEqual(ask_last(*THREE_DEEDS, ("touches", 0)), [1, 0])
        self.assertEqual(ask_last(*THREE_DEEDS, ("touches", 2)), [0])
        self.assertEqual(ask_last(*THREE_DEEDS, ("set", 1), ("touches", 1)), [1, 1])
        self.assertEqual(ask_last(*THREE_DEEDS, ("set", 3), ("touches", 2)), [1, 0])

    def test_rising(self):
        self.assertEqual(
            ask_last(("begin", 5), ("deed", 0, 0, 31, 13), ("set", 2), ("touches", 0)), [4, 0, 1, 2, 3])

    def test_what_comes_by_itself_is_not_counted(self):
        self.assertEqual(ask_last(*WITH_EVENTS, ("touches", 0)), [1, 0])
        self.assertEqual(ask_last(("begin", 2), ("deed", 0, 0, 1, 1), ("event", 0, 0, 1, 1), ("touches", 0)), [0])

    def test_what_an_event_makes_of_it_is_counted(self):
        self.assertEqual(
            ask_last(("begin", 3), ("deed", 0, 0, 1, 1), ("event", 1, 1, 4, 4), ("touches", 0)), [2, 0, 2])
        self.assertEqual(
            ask_last(("begin", 3), ("deed", 0, 0, 1, 1), ("event", 1, 1, 1, 0), ("touches", 0)), [0])

    def test_an_event_that_it_keeps_off_is_counted(self):
        calls = (("begin", 3), ("deed", 0, 0, 1, 0), ("event", 1, 1, 4, 4), ("set", 1))
        self.assertEqual(ask_last(*calls, ("touches", 0)), [2, 0, 2])

    def test_waiting_touches_nothing(self):
        for state in range(16):
            self.assertEqual(ask_last(*WITH_EVENTS, ("set", state), ("touches", 3)), [0])
        self.assertEqual(ask_last(("begin", 2), ("touches", 0)), [0])

    def test_no_such_choice(self):
        for choice in (4, 5, HIGHEST):
            self.assertEqual(ask_last(*THREE_DEEDS, ("touches", choice)), [-2])
        self.assertEqual(ask_last(("begin", 2), ("touches", 1)), [-2])

    def test_it_cannot_be_done_now(self):
        self.assertEqual(ask_last(*THREE_DEEDS, ("touches", 1)), [-6])
        self.assertEqual(ask_last(*THREE_DEEDS, ("set", 1), ("touches", 0)), [-6])

    def test_asking_changes_nothing(self):
        self.assertEqual(ask(*WITH_EVENTS, ("touches", 0), ("now",), ("touches", 1))[6:], [[1, 0], [0], [-6]])


class Price(unittest.TestCase):
    def test_the_weights_of_what_is_changed_besides_the_aim(self):
        for aim, wanted, row, price in (
                (2, 2, [0, 1], 10), (2, 2, [0, 1, 2], 0), (3, 3, [0, 1], 0), (1, 1, [0, 1], 20),
                (1, 1, [0], 0), (3, 2, [0, 1, 2], 0), (1, 0, [0, 1, 2], 20), (4, 0, [0, 1], 30),
                (15, 3, [0, 1], 0)):
            for by_itself in (0, 1):
                answered = ask_last(*THREE_DEEDS, *WEIGHED, ("price", aim, wanted, by_itself, row))
                self.assertEqual(answered, [price], (aim, wanted, row))

    def test_held_against_now_or_what_comes_by_itself(self):
        for row, against_now, by_itself in (
                ([0, 1], 130, 10), ([0, 1, 2], 120, 0), ([0, 3, 1], 130, 10)):
            self.assertEqual(
                ask_last(*WITH_EVENTS, *WEIGHED, ("price", 2, 2, 0, row)), [against_now])
            self.assertEqual(
                ask_last(*WITH_EVENTS, *WEIGHED, ("price", 2, 2, 1, row)), [by_itself])

    def test_every_weight_is_one_at_first(self):
        self.assertEqual(ask_last(*WITH_EVENTS, ("price", 2, 2, 0, [0, 1])), [3])

    def test_weight_none_and_a_hundred(self):
        heavy = [("weight", fact, 100) for fact in range(5)]
        answered = ask(
            ("begin", 5), ("deed", 0, 0, 31, 31), *heavy, ("price", 0, 0, 0, [0]), ("weight", 2, 0),
            ("price", 0, 0, 0, [0]), ("price", 4, 4, 0, [0]), ("price", 1, 1, 0, [0]))
        self.assertEqual(answered[7:], [[500], [100], [400], [400], [300]])

    def test_an_aim_of_no_facts(self):
        for row, price in (([], 0), ([3], 0), ([0], 1), ([0, 1], 2), ([0, 2], 0)):
            self.assertEqual(ask_last(*THREE_DEEDS, ("price", 0, 0, 0, row)), [price])

    def test_no_steps(self):
        for by_itself in (0, 1):
            answered = ask(
                *WITH_EVENTS, ("price", 1, 0, by_itself, []), ("price", 1, 1, by_itself, []), ("set", 1),
                ("price", 1, 1, by_itself, []), ("price", 1, 0, by_itself, []))
            self.assertEqual(answered[6:], [[0], [-33], [0], [0], [-33]])

    def test_waiting_changes_nothing_held_against_what_comes_by_itself(self):
        for state in range(16):
            for steps in range(13):
                row = [3] * steps
                answered = ask(*WITH_EVENTS, ("set", state), ("price", 0, 0, 1, row), ("changes", 1, row))
                self.assertEqual(answered[7:], [[0], [0]])

    def test_a_row_that_changes_on_the_way_and_changes_back(self):
        self.assertEqual(ask_last(*THREE_DEEDS, ("price", 8, 0, 0, [0, 2, 0, 2])), [0])

    def test_a_deed_that_makes_what_would_have_come_by_itself(self):
        calls = (("begin", 2), ("deed", 0, 0, 1, 1), ("event", 0, 0, 1, 1))
        answered = ask(*calls, ("price", 0, 0, 1, [0]), ("price", 0, 0, 0, [0]), ("price", 1, 1, 0, [0]))
        self.assertEqual(answered[3:], [[0], [1], [0]])

    def test_no_such_choice(self):
        for row in ([4], [HIGHEST], [1, 4], [0, 1, 4], [3] * 11 + [4]):
            self.assertEqual(ask_last(*THREE_DEEDS, ("price", 2, 2, 0, row)), [-2])

    def test_no_aim_or_held_against_neither(self):
        for aim, wanted, by_itself in (
                (16, 0, 0), (16, 16, 0), (HIGHEST, 0, 0), (HIGHEST, HIGHEST, 1), (1, 2, 0), (0, 1, 0),
                (3, 4, 1), (2, 3, 0), (1, HIGHEST, 0), (2, 2, 2), (2, 2, HIGHEST), (16, 32, 2)):
            for row in ([], [0, 1], [3] * 12):
                self.assertEqual(ask_last(*THREE_DEEDS, ("price", aim, wanted, by_itself, row)), [-22])

    def test_it_cannot_be_done_to_its_end(self):
        for row in ([1], [0, 0], [0, 1, 0], [0, 2, 1], [3] * 11 + [1], [0] + [3] * 10 + [0]):
            for aim, wanted in ((0, 0), (1, 1), (1, 0)):
                self.assertEqual(ask_last(*THREE_DEEDS, ("price", aim, wanted, 0, row)), [-6])

    def test_it_does_not_end_with_the_aim(self):
        for aim, wanted, row in ((2, 2, [0]), (1, 0, [0]), (3, 3, [0, 1, 2]), (1, 1, [0, 2]), (8, 8, [3])):
            for by_itself in (0, 1):
                self.assertEqual(ask_last(*THREE_DEEDS, ("price", aim, wanted, by_itself, row)), [-33])

    def test_which_refusal_comes_first(self):
        for call, refusal in (
                (("price", 16, 16, 2, [1, 4]), -2), (("price", 16, 0, 0, [4]), -2), (("price", 2, 2, 0, [1, 4]), -2),
                (("price", 1, 2, 0, [1]), -22), (("price", 2, 2, 2, [1]), -22), (("price", 2, 1, 0, [0]), -22),
                (("price", 2, 2, 0, [1]), -6), (("price", 2, 2, 0, [0]), -33)):
            self.assertEqual(ask_last(*THREE_DEEDS, call), [refusal], call)

    def test_asking_changes_nothing(self):
        answered = ask(
            *WITH_EVENTS, ("price", 2, 2, 0, [0, 1]), ("price", 2, 2, 0, [1]), ("now",), ("weights",),
            ("price", 2, 2, 0, [0, 1]))
        self.assertEqual(answered[6:], [[3], [-6], [0], [4, 1, 1, 1, 1], [3]])


if __name__ == "__main__":
    unittest.main()
