"""Promise 2: least, row, costs and firstfree."""

import unittest

from asking import ask, ask_last
from worlds import EARLY, NOT_ALLOWED, RINGS, THREE_DEEDS, WEIGHED, WITH_EVENTS


class Least(unittest.TestCase):
    def test_how_much_then_how_many_steps(self):
        for by_itself in (0, 1):
            for steps in range(11):
                expected = [-33] if steps < 2 else [1, 2] if steps == 2 else [0, 3]
                self.assertEqual(ask_last(*THREE_DEEDS, ("least", 2, 2, by_itself, steps)), expected)

    def test_with_events_held_against_now(self):
        for steps in range(2, 11):
            call = ("least", 2, 2, 0, steps)
            self.assertEqual(ask_last(*WITH_EVENTS, call), [3, 2] if steps == 2 else [2, 3])
            self.assertEqual(ask_last(*WITH_EVENTS, *WEIGHED, call), [130, 2] if steps == 2 else [120, 3])

    def test_with_events_held_against_what_comes_by_itself(self):
        for steps in range(2, 11):
            call = ("least", 2, 2, 1, steps)
            self.assertEqual(ask_last(*WITH_EVENTS, call), [1, 2] if steps == 2 else [0, 3])
            self.assertEqual(ask_last(*WITH_EVENTS, *WEIGHED, call), [10, 2] if steps == 2 else [0, 3])

    def test_the_aims_own_facts_never_count(self):
        self.assertEqual(ask_last(*THREE_DEEDS, *WEIGHED, ("least", 3, 3, 0, 10)), [0, 2])
        self.assertEqual(ask_last(*WITH_EVENTS, *WEIGHED, ("least", 7, 7, 0, 10)), [80, 2])
        self.assertEqual(ask_last(*WITH_EVENTS, *WEIGHED, ("least", 15, 15, 0, 10)), [0, 2])

    def test_facts_that_are_not_to_be_so(self):
        self.assertEqual(ask_last(*THREE_DEEDS, ("least", 3, 2, 0, 2)), [-33])
        self.assertEqual(ask_last(*THREE_DEEDS, ("least", 3, 2, 0, 3)), [0, 3])
        self.assertEqual(ask_last(*THREE_DEEDS, ("set", 3), ("least", 1, 0, 0, 1)), [0, 1])
        self.assertEqual(ask_last(*THREE_DEEDS, ("set", 3), ("least", 2, 0, 0, 10)), [-33])

    def test_as_many_steps_as_there_may_be(self):
        for steps, expected in ((3, [-33]), (4, [1, 4]), (5, [1, 4]), (6, [1, 4]), (7, [0, 7]), (10, [0, 7])):
            self.assertEqual(ask_last(*RINGS, ("least", 4, 4, 0, steps)), expected)

    def test_from_how_it_stands_now(self):
        answered = ask(*RINGS, ("set", 6), ("least", 4, 0, 0, 10), ("do", 5), ("least", 4, 4, 1, 10))
        self.assertEqual(answered[7:], [[0], [0, 1], [2], [0, 1]])

    def test_weights_as_they_are_now(self):
        answered = ask(
            *RINGS, ("weight", 1, 100), ("least", 4, 4, 0, 6), ("weight", 1, 0), ("least", 4, 4, 0, 6),
            ("least", 4, 4, 0, 10))
        self.assertEqual(answered[7:], [[1], [1, 6], [100], [0, 4], [0, 4]])

    def test_the_most_that_can_be_changed(self):
        heavy = [("weight", fact, 100) for fact in range(5)]
        self.assertEqual(ask_last(("begin", 5), ("deed", 0, 0, 31, 31), *heavy, ("least", 1, 1, 0, 10)), [400, 1])

    def test_no_aim_held_against_neither_or_too_many_steps(self):
        for given in NOT_ALLOWED:
            self.assertEqual(ask_last(*THREE_DEEDS, ("least",) + given), [-22], given)

    def test_just_the_facts_that_there_are(self):
        for many in (2, 3, 4, 5):
            answered = ask(
                ("begin", many), ("least", 2 ** many - 1, 0, 1, 10), ("least", 2 ** many, 0, 1, 10),
                ("least", 2 ** many - 1, 2 ** many, 1, 10), ("least", 2 ** many - 1, 2 ** many - 1, 1, 10))
            self.assertEqual(answered[1:], [[0, 0], [-22], [-22], [-33]])

    def test_the_aim_cannot_be_come_to(self):
        for aim, wanted, steps in ((2, 2, 0), (2, 2, 1), (4, 4, 10), (8, 8, 10), (6, 6, 10), (15, 15, 10)):
            for by_itself in (0, 1):
                self.assertEqual(ask_last(*THREE_DEEDS, ("least", aim, wanted, by_itself, steps)), [-33])

    def test_which_refusal_comes_first(self):
        for given in ((4, 4, 0, 11), (4, 4, 2, 10), (4, 12, 0, 10), (20, 4, 0, 10)):
            self.assertEqual(ask_last(*THREE_DEEDS, ("least",) + given), [-22])


class TheRow(unittest.TestCase):
    def test_how_many_choices_then_they(self):
        for by_itself in (0, 1):
            for steps in range(11):
                expected = [-33] if steps < 2 else [2, 0, 1] if steps == 2 else [3, 0, 1, 2]
                for world in (THREE_DEEDS, WITH_EVENTS):
                    self.assertEqual(ask_last(*world, ("row", 2, 2, by_itself, steps)), expected)

    def test_a_long_one(self):
        for steps in range(4, 11):
            expected = [4, 0, 2, 1, 4] if steps < 7 else [7, 0, 2, 1, 4, 0, 3, 1]
            self.assertEqual(ask_last(*RINGS, ("row", 4, 4, 0, steps)), expected)

    def test_ten_steps(self):
        # Where fact 2 is so alone, fact 3 comes in its place; from there on it all begins anew.
        calls = (("begin", 4),) + RINGS[1:] + (("event", 15, 4, 12, 8),)
        self.assertEqual(ask_last(*calls, ("row", 8, 8, 0, 10)), [7, 0, 2, 1, 4, 0, 3, 1])
        self.assertEqual(ask_last(*calls, ("row", 10, 10, 0, 9)), [9, 0, 2, 1, 4, 0, 3, 1, 0, 2])
        self.assertEqual(ask_last(*calls, ("least", 10, 10, 0, 9)), [1, 9])
        self.assertEqual(ask_last(*calls, ("row", 10, 10, 0, 10)), [10, 0, 2, 1, 4, 0, 3, 1, 0, 2, 1])
        self.assertEqual(ask_last(*calls, ("least", 10, 10, 0, 10)), [0, 10])

    def test_with_events_waiting_is_a_choice(self):
        for by_itself, much in ((0, 1), (1, 0)):
            answered = ask(*WITH_EVENTS, ("least", 4, 4, by_itself, 10), ("row", 4, 4, by_itself, 10))
            # Deed 2 takes back what deed 0 makes: together they change as little as waiting, and are the first.
            self.assertEqual(answered[6:], [[much, 2], [2, 0, 2]])
        self.assertEqual(ask_last(*WITH_EVENTS, ("undeed", 2), ("row", 4, 4, 0, 10)), [2, 2, 2])
        self.assertEqual(
            ask(*WITH_EVENTS, ("undeed", 2), ("undeed", 1), ("undeed", 0), ("row", 4, 4, 1, 10))[-1], [2, 0, 0])

    def test_the_deeds_as_they_are_numbered_now(self):
        answered = ask(
            ("begin", 3), ("deed", 0, 0, 4, 4), ("deed", 0, 0, 2, 2), ("row", 2, 2, 0, 1), ("undeed", 0),
            ("row", 2, 2, 0, 1), ("undeed", 0), ("row", 2, 2, 0, 1))
        self.assertEqual(answered[3:], [[1, 1], [1], [1, 0], [0], [-33]])

    def test_no_aim_held_against_neither_or_too_many_steps(self):
        for given in NOT_ALLOWED:
            self.assertEqual(ask_last(*THREE_DEEDS, ("row",) + given), [-22], given)

    def test_the_aim_cannot_be_come_to(self):
        for aim, wanted, steps in ((2, 2, 0), (2, 2, 1), (4, 4, 10), (8, 8, 10), (6, 6, 10), (15, 15, 10)):
            for by_itself in (0, 1):
                self.assertEqual(ask_last(*THREE_DEEDS, ("row", aim, wanted, by_itself, steps)), [-33])

    def test_which_refusal_comes_first(self):
        for given in ((4, 4, 0, 11), (4, 4, 2, 10), (4, 12, 0, 10), (20, 4, 0, 10)):
            self.assertEqual(ask_last(*THREE_DEEDS, ("row",) + given), [-22])


class TwoRowsThatChangeAsLittle(unittest.TestCase):
    def told(self, *world):
        """Of the aim that fact 0 is so: least, and row."""
        return ask(*world, ("least", 1, 1, 0, 10), ("row", 1, 1, 0, 10))[-2:]

    def test_the_lesser_choice(self):
        self.assertEqual(
            self.told(("begin", 2), ("deed", 0, 0, 1, 1), ("deed", 0, 0, 1, 1)), [[0, 1], [1, 0]])

    def test_less_changed_ahead_of_the_lesser_choice(self):
        self.assertEqual(
            self.told(("begin", 2), ("deed", 0, 0, 3, 3), ("deed", 0, 0, 1, 1)), [[0, 1], [1, 1]])

    def test_less_changed_ahead_of_fewer_steps(self):
        self.assertEqual(
            self.told(("begin", 2), ("deed", 0, 0, 3, 3), ("deed", 0, 0, 2, 0)), [[0, 2], [2, 0, 1]])

    def test_fewer_steps_ahead_of_the_lesser_choice(self):
        deeds = (("deed", 0, 0, 2, 2), ("deed", 2, 2, 3, 1), ("deed", 0, 0, 1, 1))
        self.assertEqual(self.told(("begin", 2), *deeds), [[0, 1], [1, 2]])
        self.assertEqual(self.told(("begin", 2), *deeds[:2]), [[0, 2], [2, 0, 1]])

    def test_the_lesser_choice_where_two_first_differ(self):
        # The rows are 0 and 3, by fact 1, and 1 and 2, by fact 2.
        world = (
            ("begin", 3), ("deed", 6, 0, 2, 2), ("deed", 6, 0, 4, 4), ("deed", 4, 4, 1, 1), ("deed", 2, 2, 1, 1))
        self.assertEqual(self.told(*world), [[1, 2], [2, 0, 3]])
        self.assertEqual(self.told(*world, ("weight", 1, 2)), [[1, 2], [2, 1, 2]])
        self.assertEqual(self.told(*world, ("weight", 1, 0), ("weight", 2, 0)), [[0, 2], [2, 0, 3]])

    def test_two_rows_by_way_of_one_state(self):
        world = (
            ("begin", 4), ("deed", 2, 0, 2, 2), ("deed", 4, 0, 4, 4), ("deed", 6, 6, 7, 1))
        self.assertEqual(self.told(*world), [[0, 3], [3, 0, 1, 2]])

    def test_the_first_choice_counts_more_than_all_behind_it(self):
        # 0, 5, 4 and 1, 2, 3 both end with fact 0 alone.
        world = (
            ("begin", 4), ("deed", 15, 0, 2, 2), ("deed", 15, 0, 4, 4), ("deed", 15, 4, 12, 8),
            ("deed", 15, 8, 9, 1), ("deed", 15, 10, 11, 1), ("deed", 15, 2, 8, 8))
        self.assertEqual(self.told(*world), [[0, 3], [3, 0, 5, 4]])
        self.assertEqual(self.told(*world, ("undeed", 0)), [[0, 3], [3, 0, 1, 2]])

    def test_a_deed_ahead_of_waiting(self):
        # Fact 1 comes behind one step and fact 2 behind two; deed 0 turns fact 0 once, 1 is waiting.
        clock = (("event", 2, 2, 4, 4), ("event", 0, 0, 2, 2))
        for needs, row in (((1, 0), [0, 1]), ((0, 0), [0, 0]), ((2, 2), [1, 0]), ((2, 0), [0, 1])):
            world = (("begin", 3), ("deed",) + needs + (1, 1)) + clock
            self.assertEqual(ask_last(*world, ("row", 5, 5, 0, 10)), [2] + row)
            self.assertEqual(ask_last(*world, ("row", 5, 5, 1, 10)), [2] + row)

    def test_waiting_ahead_of_a_deed_that_changes_more(self):
        world = (("begin", 3), ("deed", 0, 0, 1, 1), ("event", 2, 2, 4, 4), ("event", 0, 0, 2, 2))
        answered = ask(*world, *[(name, 4, 4, b, 10) for b in (0, 1) for name in ("least", "row")])
        self.assertEqual(answered[4:], [[1, 2], [2, 1, 1], [0, 2], [2, 1, 1]])


class Costs(unittest.TestCase):
    def test_how_many_then_how_much_for_each(self):
        for by_itself in (0, 1):
            for steps in range(11):
                costs = [-1, -1, 1, 0, 0, 0, 0, 0, 0, 0, 0][:steps + 1]
                self.assertEqual(ask_last(*THREE_DEEDS, ("costs", 2, 2, by_itself, steps)), [steps + 1] + costs)

    def test_with_events(self):
        self.assertEqual(ask_last(*WITH_EVENTS, ("costs", 2, 2, 0, 4)), [5, -1, -1, 3, 2, 2])
        self.assertEqual(ask_last(*WITH_EVENTS, ("costs", 2, 2, 1, 4)), [5, -1, -1, 1, 0, 0])
        self.assertEqual(ask_last(*WITH_EVENTS, *WEIGHED, ("costs", 2, 2, 0, 4)), [5, -1, -1, 130, 120, 120])
        self.assertEqual(ask_last(*WITH_EVENTS, *WEIGHED, ("costs", 2, 2, 1, 4)), [5, -1, -1, 10, 0, 0])

    def test_just_so_many_steps(self):
        self.assertEqual(
            ask_last(*RINGS, ("costs", 4, 4, 0, 10)), [11, -1, -1, -1, -1, 1, 1, 1, 0, 0, 0, 0])
        # By itself fact 0 turns with each step, so that the aim is met behind every other one alone.
        turning = (("begin", 2), ("event", 3, 3, 2, 0), ("event", 3, 0, 3, 3), ("event", 3, 1, 3, 0))
        self.assertEqual(ask_last(*turning, *[("base", 1, t) for t in range(3)], ("costs", 1, 1, 0, 0)), [1, -1])
        answered = ask(*turning, *[("base", 1, t) for t in range(5)], ("costs", 1, 1, 0, 6), ("costs", 1, 0, 1, 6))
        self.assertEqual(answered[4:9], [[0], [3], [0], [3], [0]])
        self.assertEqual(answered[9:], [[7, -1, 1, -1, 1, -1, 1, -1], [7, 0, -1, 0, -1, 0, -1, 0]])

    def test_more_steps_may_cost_more(self):
        # Each step brings one more fact by itself.
        world = (
            ("begin", 4), ("deed", 1, 0, 1, 1), ("event", 4, 4, 8, 8), ("event", 2, 2, 4, 4), ("event", 0, 0, 2, 2))
        self.assertEqual(ask_last(*world, ("costs", 1, 1, 0, 5)), [6, -1, 1, 2, 3, 3, 3])
        self.assertEqual(ask_last(*world, ("costs", 1, 1, 1, 5)), [6, -1, 0, 0, 0, 0, 0])
        self.assertEqual(ask_last(*world, ("costs", 1, 0, 0, 5)), [6, 0, 1, 2, 3, 3, 3])

    def test_an_aim_that_cannot_be_come_to(self):
        for steps in (0, 1, 10):
            for by_itself in (0, 1):
                self.assertEqual(
                    ask_last(*THREE_DEEDS, ("costs", 4, 4, by_itself, steps)), [steps + 1] + [-1] * (steps + 1))

    def test_no_aim_held_against_neither_or_too_many_steps(self):
        for given in NOT_ALLOWED:
            self.assertEqual(ask_last(*THREE_DEEDS, ("costs",) + given), [-22], given)


class FirstFree(unittest.TestCase):
    def test_the_fewest_steps_with_which_nothing_is_changed(self):
        for by_itself in (0, 1):
            self.assertEqual(ask_last(*THREE_DEEDS, ("firstfree", 2, 2, by_itself)), [3])
            self.assertEqual(ask_last(*THREE_DEEDS, ("firstfree", 3, 3, by_itself)), [2])
            self.assertEqual(ask_last(*THREE_DEEDS, ("firstfree", 1, 1, by_itself)), [1])
            self.assertEqual(ask_last(*RINGS, ("firstfree", 4, 4, by_itself)), [7])
            self.assertEqual(ask_last(*RINGS, ("firstfree", 6, 6, by_itself)), [4])

    def test_with_events(self):
        self.assertEqual(ask_last(*WITH_EVENTS, ("firstfree", 2, 2, 0)), [-33])
        self.assertEqual(ask_last(*WITH_EVENTS, ("firstfree", 2, 2, 1)), [3])
        self.assertEqual(ask_last(*WITH_EVENTS, ("firstfree", 14, 14, 0)), [3])
        self.assertEqual(ask_last(*WITH_EVENTS, ("firstfree", 4, 4, 1)), [2])

    def test_with_none_of_ten_steps(self):
        self.assertEqual(ask_last(*THREE_DEEDS, ("firstfree", 4, 4, 0)), [-33])
        self.assertEqual(ask_last(("begin", 2), ("deed", 0, 0, 3, 3), ("firstfree", 1, 1, 0)), [-33])
        self.assertEqual(ask_last(("begin", 2), ("deed", 0, 0, 3, 3), ("weight", 1, 0), ("firstfree", 1, 1, 0)), [1])

    def test_just_ten_steps(self):
        calls = (("begin", 4),) + RINGS[1:] + (("event", 15, 4, 12, 8),)
        self.assertEqual(ask_last(*calls, ("firstfree", 10, 10, 0)), [10])
        self.assertEqual(ask_last(*calls, ("set", 3), ("firstfree", 14, 14, 0)), [10])
        # With fact 2 besides it takes eleven.
        answered = ask(*calls, ("firstfree", 14, 14, 0), ("do", 0), ("firstfree", 14, 14, 0), ("least", 14, 14, 0, 10))
        self.assertEqual(answered[8:], [[-33], [1], [-33], [1, 10]])

    def test_no_aim_or_held_against_neither(self):
        for given in NOT_ALLOWED:
            if given[3] < 11:
                self.assertEqual(ask_last(*THREE_DEEDS, ("firstfree",) + given[:3]), [-22], given)
        for given in ((4, 4, 2), (4, 12, 0), (20, 4, 0)):
            self.assertEqual(ask_last(*THREE_DEEDS, ("firstfree",) + given), [-22])


class Corners(unittest.TestCase):
    def test_the_aim_is_so_already(self):
        for by_itself in (0, 1):
            for steps in (0, 1, 10):
                answered = ask(
                    *WITH_EVENTS, ("set", 2), ("least", 2, 2, by_itself, steps), ("row", 2, 2, by_itself, steps),
                    ("firstfree", 2, 2, by_itself), ("least", 9, 0, by_itself, steps))
                self.assertEqual(answered[7:], [[0, 0], [0], [0], [0, 0]])
        self.assertEqual(ask_last(*WITH_EVENTS, ("set", 2), ("costs", 2, 2, 0, 3)), [4, 0, 1, 2, 2])
        self.assertEqual(ask_last(*WITH_EVENTS, ("set", 2), ("costs", 2, 2, 1, 3)), [4, 0, 0, 0, 0])

    def test_an_aim_of_no_facts(self):
        for state in range(16):
            for by_itself in (0, 1):
                answered = ask(
                    *WITH_EVENTS, ("set", state), ("least", 0, 0, by_itself, 10), ("row", 0, 0, by_itself, 10),
                    ("firstfree", 0, 0, by_itself))
                self.assertEqual(answered[7:], [[0, 0], [0], [0]])
        self.assertEqual(ask_last(*WITH_EVENTS, ("costs", 0, 0, 0, 3)), [4, 0, 1, 2, 2])
        self.assertEqual(ask_last(*WITH_EVENTS, ("costs", 0, 0, 1, 3)), [4, 0, 0, 0, 0])

    def test_an_event_that_changes_a_fact_by_itself(self):
        world = (("begin", 3), ("deed", 0, 0, 1, 1), ("event", 0, 0, 4, 4))
        answered = ask(*world, *[(name, 1, 1, b, 10) for b in (0, 1) for name in ("least", "row", "costs")])
        self.assertEqual(answered[3:], [
            [1, 1], [1, 0], [11, -1] + [1] * 10, [0, 1], [1, 0], [11, -1] + [0] * 10])
        self.assertEqual(ask(*world, ("firstfree", 1, 1, 0), ("firstfree", 1, 1, 1))[3:], [[-33], [1]])
        # The event's fact is the aim: it comes by waiting alone.
        self.assertEqual(ask(*world, ("least", 4, 4, 0, 1), ("row", 4, 4, 0, 1))[3:], [[0, 1], [1, 1]])

    def test_an_event_that_a_deed_keeps_off(self):
        # Waiting lets fact 2 come; deed 0 takes fact 1 away, which it needs.
        world = (("begin", 3), ("deed", 0, 0, 3, 1), ("event", 2, 2, 4, 4), ("set", 2))
        answered = ask(*world, *[("least", 1, 1, b, k) for b in (0, 1) for k in (1, 2, 10)])
        self.assertEqual(answered[4:], [[1, 1], [1, 1], [1, 1], [2, 1], [1, 2], [1, 2]])
        answered = ask(*world, *[("row", 1, 1, b, k) for b in (0, 1) for k in (1, 2, 10)])
        self.assertEqual(answered[4:], [[1, 0], [1, 0], [1, 0], [1, 0], [2, 1, 0], [2, 1, 0]])

    def test_weight_none(self):
        answered = ask(
            *THREE_DEEDS, ("weight", 0, 0), ("least", 2, 2, 0, 10), ("row", 2, 2, 0, 10), ("costs", 2, 2, 0, 3),
            ("firstfree", 2, 2, 0))
        self.assertEqual(answered[5:], [[0, 2], [2, 0, 1], [4, -1, -1, 0, 0], [2]])

    def test_a_row_that_changes_on_the_way_and_changes_back(self):
        answered = ask(*THREE_DEEDS, ("least", 2, 2, 0, 3), ("row", 2, 2, 0, 3), ("changes", 0, [0, 1]))
        self.assertEqual(answered[4:], [[0, 3], [3, 0, 1, 2], [2, 0, 1]])

    def test_no_steps(self):
        for by_itself in (0, 1):
            for wanted, least, row, costs in ((0, [0, 0], [0], [1, 0]), (1, [-33], [-33], [1, -1])):
                answered = ask(
                    *WITH_EVENTS, ("least", 1, wanted, by_itself, 0), ("row", 1, wanted, by_itself, 0),
                    ("costs", 1, wanted, by_itself, 0))
                self.assertEqual(answered[6:], [least, row, costs])

    def test_a_deed_that_makes_what_would_have_come_by_itself(self):
        self.assertEqual(ask_last(*EARLY, ("costs", 1, 1, 0, 3)), [4, -1, 2, 2, 2])
        self.assertEqual(ask_last(*EARLY, ("costs", 1, 1, 1, 3)), [4, -1, 1, 0, 0])
        answered = ask(
            *EARLY, ("least", 1, 1, 0, 10), ("row", 1, 1, 0, 10), ("least", 1, 1, 1, 1), ("row", 1, 1, 1, 1),
            ("least", 1, 1, 1, 2), ("row", 1, 1, 1, 2), ("firstfree", 1, 1, 0), ("firstfree", 1, 1, 1))
        self.assertEqual(answered[4:], [[2, 1], [1, 0], [1, 1], [1, 0], [0, 2], [2, 0, 0], [-33], [2]])

    def test_a_row_that_ends_early(self):
        for steps in range(1, 11):
            self.assertEqual(ask_last(*THREE_DEEDS, ("least", 1, 1, 0, steps)), [0, 1])
            self.assertEqual(ask_last(*THREE_DEEDS, ("row", 1, 1, 0, steps)), [1, 0])

    def test_an_aim_that_is_met_on_the_way_alone_is_not_come_to(self):
        # Behind its step fact 0 is taken back by the event, so no row ends with it.
        world = (("begin", 2), ("deed", 0, 0, 1, 1), ("event", 1, 1, 1, 0))
        self.assertEqual(ask(*world, ("least", 1, 1, 0, 10), ("row", 1, 1, 0, 10))[3:], [[-33], [-33]])


if __name__ == "__main__":
    unittest.main()
