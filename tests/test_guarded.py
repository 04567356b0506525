"""Promise 3: guarded, guardrow and free."""

import unittest

from asking import HIGHEST, ask, ask_last
from worlds import EARLY, NOT_ALLOWED, RINGS, THREE_DEEDS, WEIGHED, WITH_EVENTS


def both(world, *given):
    """What guarded and guardrow answer."""
    return ask(*world, ("guarded",) + given, ("guardrow",) + given)[-2:]


class Guarded(unittest.TestCase):
    def test_a_guard_that_the_row_keeps_anyhow(self):
        for by_itself in (0, 1):
            for guard in (0, 4, 8, 12):
                self.assertEqual(both(THREE_DEEDS, 2, 2, by_itself, guard, 2), [[1, 2], [2, 0, 1]])
                for steps in (3, 4, 10):
                    self.assertEqual(both(THREE_DEEDS, 2, 2, by_itself, guard, steps), [[0, 3], [3, 0, 1, 2]])

    def test_a_guard_that_no_row_keeps(self):
        for by_itself in (0, 1):
            for guard in (1, 5, 13, 15):
                self.assertEqual(both(THREE_DEEDS, 2, 2, by_itself, guard, 10), [[-33], [-33]])

    def test_a_guard_that_another_row_keeps(self):
        # Deed 0 makes facts 0 and 1, deed 1 facts 0 and 2, deed 2 all three.
        world = (("begin", 3), ("deed", 0, 0, 3, 3), ("deed", 0, 0, 5, 5), ("deed", 0, 0, 7, 7))
        for guard, told in ((0, [[1, 1], [1, 0]]), (2, [[1, 1], [1, 1]]), (4, [[1, 1], [1, 0]]), (6, [[-33], [-33]])):
            self.assertEqual(both(world, 1, 1, 0, guard, 10), told)
        self.assertEqual(both(world + (("weight", 2, 50),), 1, 1, 0, 2, 10), [[50, 1], [1, 1]])

    def test_a_guard_may_take_more_steps(self):
        # Deed 0 makes facts 0 and 1; deeds 1 and 2 make fact 2, then with it facts 0 and not 2.
        world = (("begin", 3), ("deed", 0, 0, 3, 3), ("deed", 0, 0, 4, 4), ("deed", 4, 4, 5, 1))
        self.assertEqual(both(world, 1, 1, 0, 0, 1), [[1, 1], [1, 0]])
        self.assertEqual(both(world, 1, 1, 0, 2, 1), [[-33], [-33]])
        self.assertEqual(both(world, 1, 1, 0, 2, 2), [[0, 2], [2, 1, 2]])
        self.assertEqual(both(world, 1, 1, 0, 4, 10), [[1, 1], [1, 0]])

    def test_behind_each_step_not_behind_the_last_alone(self):
        # Fact 0 is put back at the end, and yet the guard is broken on the way.
        self.assertEqual(ask_last(*THREE_DEEDS, ("changes", 0, [0, 1, 2])), [1, 1])
        self.assertEqual(both(THREE_DEEDS, 2, 2, 0, 1, 10), [[-33], [-33]])
        self.assertEqual(both(RINGS, 4, 4, 0, 2, 10), [[-33], [-33]])

    def test_within_a_step_a_guarded_fact_may_change_and_change_back(self):
        # Deed 0 makes facts 0 and 1, and the event takes fact 1 away in the same step.
        world = (("begin", 2), ("deed", 0, 0, 3, 3), ("event", 2, 2, 2, 0))
        for by_itself in (0, 1):
            self.assertEqual(both(world, 1, 1, by_itself, 2, 10), [[0, 1], [1, 0]])

    def test_held_against_now(self):
        # Fact 3 comes by itself behind the first step, so no row of a step or more keeps it.
        for guard in (8, 9, 10, 12):
            self.assertEqual(both(WITH_EVENTS, 1, 1, 0, guard, 10), [[-33], [-33]])
        # Fact 2 comes behind the second.
        self.assertEqual(both(WITH_EVENTS, 1, 1, 0, 4, 10), [[1, 1], [1, 0]])
        self.assertEqual(both(WITH_EVENTS, 2, 2, 0, 4, 10), [[-33], [-33]])

    def test_held_against_what_comes_by_itself(self):
        for guard in (4, 8, 12):
            self.assertEqual(both(WITH_EVENTS, 2, 2, 1, guard, 2), [[1, 2], [2, 0, 1]])
            self.assertEqual(both(WITH_EVENTS + WEIGHED, 2, 2, 1, guard, 2), [[10, 2], [2, 0, 1]])
            self.assertEqual(both(WITH_EVENTS, 2, 2, 1, guard, 10), [[0, 3], [3, 0, 1, 2]])

    def test_held_against_so_many_steps_then(self):
        # Deed 0 makes fact 1 a step before it comes by itself, so the guard lets it be done behind that alone.
        self.assertEqual(both(EARLY, 1, 1, 1, 2, 1), [[-33], [-33]])
        for steps in (2, 3, 10):
            self.assertEqual(both(EARLY, 1, 1, 1, 2, steps), [[0, 2], [2, 1, 0]])
            self.assertEqual(both(EARLY, 1, 1, 1, 4, steps), [[0, 2], [2, 0, 0]])
            self.assertEqual(both(EARLY, 1, 1, 1, 6, steps), [[0, 2], [2, 1, 0]])
            self.assertEqual(both(EARLY, 1, 1, 0, 2, steps), [[-33], [-33]])

    def test_a_guarded_fact_of_weight_none_is_still_guarded(self):
        world = THREE_DEEDS + (("weight", 0, 0),)
        self.assertEqual(both(world, 2, 2, 0, 1, 10), [[-33], [-33]])
        self.assertEqual(both(world, 2, 2, 0, 4, 10), [[0, 2], [2, 0, 1]])

    def test_the_first_of_the_rows_that_keep_it(self):
        # Both rows by way of fact 1 or 2; the guard leaves one of them.
        world = (
            ("begin", 3), ("deed", 6, 0, 2, 2), ("deed", 6, 0, 4, 4), ("deed", 4, 4, 1, 1), ("deed", 2, 2, 1, 1))
        self.assertEqual(both(world, 1, 1, 0, 0, 10), [[1, 2], [2, 0, 3]])
        self.assertEqual(both(world, 1, 1, 0, 2, 10), [[1, 2], [2, 1, 2]])
        self.assertEqual(both(world, 1, 1, 0, 4, 10), [[1, 2], [2, 0, 3]])
        self.assertEqual(both(world, 1, 1, 0, 6, 10), [[-33], [-33]])

    def test_one_state_by_two_rows_of_which_one_keeps_it(self):
        # Fact 0 alone is come to by way of fact 1, and by way of fact 2.
        world = (
            ("begin", 4), ("deed", 15, 0, 3, 3), ("deed", 15, 3, 2, 0), ("deed", 15, 0, 4, 4), ("deed", 15, 4, 5, 1))
        self.assertEqual(both(world, 1, 1, 0, 0, 10), [[0, 2], [2, 0, 1]])
        self.assertEqual(both(world, 1, 1, 0, 2, 10), [[0, 2], [2, 2, 3]])
        self.assertEqual(both(world, 1, 1, 0, 4, 10), [[0, 2], [2, 0, 1]])
        self.assertEqual(both(world, 1, 1, 0, 6, 10), [[-33], [-33]])

    def test_not_allowed(self):
        for given in NOT_ALLOWED:
            for guard in (0, 1, 15, 16):
                asked = given[:3] + (guard, given[3])
                self.assertEqual(both(THREE_DEEDS, *asked), [[-22], [-22]], asked)

    def test_a_guard_is_a_set_of_facts(self):
        for guard in (16, 17, 24, 31, 32, HIGHEST):
            for by_itself in (0, 1):
                self.assertEqual(both(THREE_DEEDS, 2, 2, by_itself, guard, 3), [[-22], [-22]], guard)
                self.assertEqual(both(THREE_DEEDS, 0, 0, by_itself, guard, 0), [[-22], [-22]], guard)
        for many in (2, 3, 4, 5):
            for guard, told in ((2 ** many - 1, [[0, 0], [0]]), (2 ** many, [[-22], [-22]])):
                self.assertEqual(both((("begin", many),), 0, 0, 1, guard, 10), told)

    def test_which_refusal_comes_first(self):
        for asked in ((4, 4, 0, 16, 10), (4, 4, 0, 1, 11), (4, 4, 2, 1, 10), (4, 12, 0, 1, 10), (20, 4, 0, 1, 10)):
            self.assertEqual(both(THREE_DEEDS, *asked), [[-22], [-22]], asked)
        self.assertEqual(both(THREE_DEEDS, 4, 4, 0, 1, 10), [[-33], [-33]])

    def test_the_numbers_are_a_w_b_g_k(self):
        # The guard stands ahead of the steps: 12 is a guard, and no number of steps.
        self.assertEqual(both(THREE_DEEDS, 2, 2, 0, 12, 3), [[0, 3], [3, 0, 1, 2]])
        self.assertEqual(both(THREE_DEEDS, 2, 2, 0, 3, 12), [[-22], [-22]])


class Free(unittest.TestCase):
    def test_which_facts_can_be_left_all_the_way(self):
        for by_itself in (0, 1):
            for steps in range(11):
                expected = [0] if steps < 2 else [2, 2, 3]
                self.assertEqual(ask_last(*THREE_DEEDS, ("free", 2, 2, by_itself, steps)), expected)

    def test_with_events(self):
        for steps in range(11):
            expected = [0] if steps < 2 else [2, 2, 3]
            self.assertEqual(ask_last(*WITH_EVENTS, ("free", 2, 2, 1, steps)), expected)
            self.assertEqual(ask_last(*WITH_EVENTS, ("free", 2, 2, 0, steps)), [0])
            self.assertEqual(ask_last(*WITH_EVENTS, ("free", 1, 1, 0, steps)), [2, 1, 2] if steps else [0])

    def test_each_by_itself(self):
        # Facts 1 and 2 can each be left, but not both.
        world = (("begin", 3), ("deed", 0, 0, 3, 3), ("deed", 0, 0, 5, 5))
        answered = ask(*world, ("free", 1, 1, 0, 10), ("guarded", 1, 1, 0, 6, 10))
        self.assertEqual(answered[3:], [[2, 1, 2], [-33]])

    def test_not_the_facts_of_the_aim(self):
        for aim, facts in ((0, [0, 1, 2, 3]), (1, [1, 2, 3]), (6, [0, 3]), (8, [0, 1, 2]), (15, [])):
            answered = ask_last(*THREE_DEEDS, ("set", 5), ("free", aim, aim & 5, 0, 10))
            self.assertEqual(answered, [len(facts)] + facts)

    def test_rising(self):
        self.assertEqual(
            ask_last(("begin", 5), ("deed", 0, 0, 4, 4), ("free", 4, 4, 0, 1)), [4, 0, 1, 3, 4])

    def test_by_some_row_not_by_the_row_alone(self):
        # The row that's told changes fact 1; another, which changes more, leaves it.
        world = (("begin", 4), ("deed", 0, 0, 3, 3), ("deed", 0, 0, 13, 13))
        answered = ask(*world, ("row", 1, 1, 0, 10), ("free", 1, 1, 0, 10))
        self.assertEqual(answered[3:], [[1, 0], [3, 1, 2, 3]])

    def test_more_steps_may_leave_more(self):
        answered = ask(*EARLY, *[("free", 1, 1, 1, steps) for steps in (0, 1, 2, 10)])
        self.assertEqual(answered[4:], [[0], [1, 2], [2, 1, 2], [2, 1, 2]])
        self.assertEqual(ask_last(*EARLY, ("free", 1, 1, 0, 10)), [0])

    def test_a_fact_of_weight_none_is_told_as_any_other(self):
        self.assertEqual(ask_last(*THREE_DEEDS, ("weight", 0, 0), ("weight", 2, 0), ("free", 2, 2, 0, 10)), [2, 2, 3])

    def test_no_facts_where_the_aim_cannot_be_come_to(self):
        for aim, wanted, steps in ((2, 2, 0), (2, 2, 1), (4, 4, 10), (9, 9, 10), (15, 15, 10)):
            for by_itself in (0, 1):
                self.assertEqual(ask_last(*THREE_DEEDS, ("free", aim, wanted, by_itself, steps)), [0])

    def test_not_allowed(self):
        for given in NOT_ALLOWED:
            self.assertEqual(ask_last(*THREE_DEEDS, ("free",) + given), [-22], given)
        for given in ((4, 4, 0, 11), (4, 4, 2, 10), (4, 12, 0, 10), (20, 4, 0, 10), (15, 15, 2, 10), (15, 15, 0, 11)):
            self.assertEqual(ask_last(*THREE_DEEDS, ("free",) + given), [-22], given)


class Corners(unittest.TestCase):
    def test_the_aim_is_so_already(self):
        for guard in range(16):
            for by_itself in (0, 1):
                for steps in (0, 10):
                    world = WITH_EVENTS + (("set", 6),)
                    self.assertEqual(both(world, 10, 2, by_itself, guard, steps), [[0, 0], [0]])
                    self.assertEqual(ask_last(*world, ("free", 10, 2, by_itself, steps)), [2, 0, 2])

    def test_an_aim_of_no_facts(self):
        for guard in (0, 9, 15):
            for by_itself in (0, 1):
                self.assertEqual(both(WITH_EVENTS, 0, 0, by_itself, guard, 10), [[0, 0], [0]])
                self.assertEqual(ask_last(*WITH_EVENTS, ("free", 0, 0, by_itself, 10)), [4, 0, 1, 2, 3])

    def test_a_guard_of_the_aims_own_facts(self):
        # What is to change can't be left as it is now, nor as it is by itself.
        for by_itself in (0, 1):
            self.assertEqual(both(WITH_EVENTS, 1, 1, by_itself, 1, 10), [[-33], [-33]])
            self.assertEqual(both(THREE_DEEDS, 3, 3, by_itself, 2, 10), [[-33], [-33]])
        # Fact 3 comes by itself: there it's no change, though it's one held against now.
        self.assertEqual(both(WITH_EVENTS, 8, 8, 1, 8, 10), [[0, 1], [1, 2]])
        self.assertEqual(both(WITH_EVENTS, 8, 8, 0, 8, 10), [[-33], [-33]])
        # Fact 0 is to be as it is: the guard holds it all the way.
        self.assertEqual(both(THREE_DEEDS, 3, 2, 0, 0, 10), [[0, 3], [3, 0, 1, 2]])
        self.assertEqual(both(THREE_DEEDS, 3, 2, 0, 1, 10), [[-33], [-33]])

    def test_no_steps(self):
        for guard in (0, 1, 15):
            for by_itself in (0, 1):
                self.assertEqual(both(WITH_EVENTS, 1, 0, by_itself, guard, 0), [[0, 0], [0]])
                self.assertEqual(both(WITH_EVENTS, 1, 1, by_itself, guard, 0), [[-33], [-33]])
        self.assertEqual(ask(*WITH_EVENTS, ("free", 1, 0, 0, 0), ("free", 1, 1, 0, 0))[6:], [[3, 1, 2, 3], [0]])

    def test_waiting_keeps_every_guard_held_against_what_comes_by_itself(self):
        # Fact 2 comes by waiting; deed 0 would bring fact 0 besides.
        world = (("begin", 3), ("deed", 0, 0, 1, 1), ("event", 2, 2, 4, 4), ("event", 0, 0, 2, 2))
        self.assertEqual(both(world, 4, 4, 1, 7, 10), [[0, 2], [2, 1, 1]])
        self.assertEqual(both(world, 4, 4, 0, 1, 10), [[1, 2], [2, 1, 1]])
        self.assertEqual(both(world, 4, 4, 0, 2, 10), [[-33], [-33]])

    def test_with_all_facts_not_of_the_aim_guarded_nothing_is_changed(self):
        self.assertEqual(both(RINGS, 7, 4, 0, 0, 10), [[0, 7], [7, 0, 2, 1, 4, 0, 3, 1]])
        self.assertEqual(both(RINGS, 3, 2, 0, 4, 10), [[0, 3], [3, 0, 2, 1]])
        self.assertEqual(both(RINGS, 5, 5, 0, 2, 10), [[-33], [-33]])

    def test_a_row_that_ends_early(self):
        for steps in range(1, 11):
            self.assertEqual(both(THREE_DEEDS, 1, 1, 0, 14, steps), [[0, 1], [1, 0]])


if __name__ == "__main__":
    unittest.main()
