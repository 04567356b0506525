"""What holds, over many drawn worlds: each answer against a plain walk through all rows."""

import random
import unittest

from asking import ask
from model import Model, members, told_as_number

# For each number of deeds, how many steps leave few enough rows to walk through all of them.
STEPS_FOR_DEEDS = {0: 10, 1: 10, 2: 6, 3: 5, 4: 4, 5: 3, 6: 3}


def drawn_set(source, many, fewest, most):
    return sum(2 ** q for q in source.sample(range(many), source.randrange(fewest, most + 1)))


def drawn_rule(source, many, most_needed):
    a = drawn_set(source, many, 0, most_needed)
    c = drawn_set(source, many, 1, 2)
    return (a, a & source.randrange(2 ** many), c, c & source.randrange(2 ** many))


def drawn_world(source, deeds, most_events=3):
    many = source.choice([2, 3, 3, 4, 4, 5, 5, 5])
    events = source.randrange(most_events + 1)
    calls = [("begin", many)]
    # Deeds that need more make longer rows; events that need more do not undo all at once.
    calls.extend(("deed",) + drawn_rule(source, many, min(many, 3)) for place in range(deeds))
    calls.extend(("event",) + drawn_rule(source, many, many) for place in range(events))
    calls.extend(("weight", q, source.choice([0, 1, 1, 2, 3, 100])) for q in range(many))
    return calls + [("set", source.randrange(2 ** many))]


def model_of(world):
    model = Model()
    for call in world:
        model.answer(call)
    return model


def drawn_end(source, model):
    """How it stands behind some choices, of which those that can be done are."""
    so = model.so
    for turn in range(source.randrange(30)):
        behind = model.step(source.randrange(len(model.rules["deed"]) + 1), so)
        so = so if behind is None else behind
    return told_as_number(so)


def drawn_aim(source, world):
    """An aim of any facts; mostly such a one as isn't so now and can be come to."""
    model = model_of(world)
    many = world[0][1]
    a = drawn_set(source, many, 0, many)
    if source.randrange(5) == 0:
        return (a, a & source.randrange(2 ** many))
    for turn in range(source.randrange(10)):
        a, w = drawn_set(source, many, 1, many), drawn_end(source, model)
        if not model.meets(model.so, a, a & w):
            return (a, a & w)
    return (a, a & told_as_number(model.so))


class Walked:
    """All rows of so many steps at most, from how it stands now."""

    def __init__(self, world, most):
        self.model = model_of(world)
        self.many = len(self.model.facts)
        self.bases = {b: [self.model.against(b, t) for t in range(most + 1)] for b in (0, 1)}
        self.rows = [([], [frozenset(self.model.so)])]
        for row, states in self.rows:
            if len(row) < most:
                for choice in range(len(self.model.rules["deed"]) + 1):
                    so = self.model.step(choice, states[-1])
                    if so is not None:
                        self.rows.append((row + [choice], states + [frozenset(so)]))

    def keeps(self, states, b, g):
        return not any(
            members(g) & (states[t] ^ self.bases[b][t]) for t in range(1, len(states)))

    def found(self, a, w, b, g):
        """What's changed, how many steps and the row, of every row that ends with the aim and keeps the guard."""
        return [
            (self.model.changed(states[-1], self.bases[b][len(row)], a), len(row), row)
            for row, states in self.rows if self.model.meets(states[-1], a, w) and self.keeps(states, b, g)]

    def costs(self, a, w, b, k):
        found = self.found(a, w, b, 0)
        costs = [min((much for much, n, row in found if n == steps), default=-1) for steps in range(k + 1)]
        return [k + 1] + costs

    def free(self, a, w, b, k):
        free = [
            q for q in range(self.many)
            if q not in members(a) and any(n <= k for much, n, row in self.found(a, w, b, 2 ** q))]
        return [len(free)] + free

    def told(self, a, w, b, g, k):
        """What guarded and guardrow are to answer."""
        found = [ending for ending in self.found(a, w, b, g) if ending[1] <= k]
        if not found:
            return [[-33], [-33]]
        much, n, row = min(found)
        return [[much, n], [n] + row]


class AgainstAllRows(unittest.TestCase):
    def test_every_search(self):
        source = random.Random(11)
        met = 0
        for turn in range(350):
            deeds = turn % 7
            world = drawn_world(source, deeds)
            most = STEPS_FOR_DEEDS[deeds]
            walked = Walked(world, most)
            calls = []
            expected = []
            for b in (0, 1):
                a, w = drawn_aim(source, world)
                g = source.randrange(2 ** walked.many) & source.randrange(2 ** walked.many)
                k = most if source.randrange(3) else source.randrange(most + 1)
                calls.extend([("least", a, w, b, k), ("row", a, w, b, k)])
                expected.extend(walked.told(a, w, b, 0, k))
                calls.extend([("guarded", a, w, b, g, k), ("guardrow", a, w, b, g, k)])
                expected.extend(walked.told(a, w, b, g, k))
                calls.extend([("costs", a, w, b, k), ("free", a, w, b, k)])
                expected.extend([walked.costs(a, w, b, k), walked.free(a, w, b, k)])
                met += expected[-3] != [-33]
            self.assertEqual(ask(*world, *calls)[len(world):], expected, (world, calls))
        self.assertGreater(met, 150)

    def test_first_free(self):
        source = random.Random(12)
        seen = set()
        for turn in range(240):
            deeds = turn % 5
            world = drawn_world(source, deeds)
            most = STEPS_FOR_DEEDS[deeds]
            walked = Walked(world, most)
            for b in (0, 1):
                a, w = drawn_aim(source, world)
                free = [n for much, n, row in walked.found(a, w, b, 0) if much == 0]
                answered = ask(*world, ("firstfree", a, w, b))[-1]
                seen.add(answered[0])
                if free:
                    self.assertEqual(answered, [min(free)], (world, a, w, b))
                elif most == 10:
                    self.assertEqual(answered, [-33], (world, a, w, b))
                else:
                    self.assertTrue(answered == [-33] or answered[0] > most, (world, a, w, b))
        self.assertLessEqual({-33, 0, 1, 2, 3}, seen)

    def test_two_deeds_and_ten_steps(self):
        source = random.Random(13)
        for turn in range(4):
            world = drawn_world(source, 2)
            walked = Walked(world, 10)
            for b in (0, 1):
                a, w = drawn_aim(source, world)
                answered = ask(
                    *world, ("least", a, w, b, 10), ("row", a, w, b, 10), ("costs", a, w, b, 10))[len(world):]
                self.assertEqual(answered, walked.told(a, w, b, 0, 10) + [walked.costs(a, w, b, 10)], world)


class WhatHolds(unittest.TestCase):
    """Over the largest worlds, too: up to 6 deeds, 3 events and 10 steps."""

    def each_world(self, seed, turns, most_events=3):
        source = random.Random(seed)
        for turn in range(turns):
            world = drawn_world(source, source.randrange(7), most_events)
            many = world[0][1]
            yield source, world, many, drawn_aim(source, world)

    def after(self, world, *calls):
        return ask(*world, *calls)[len(world):]

    def test_the_price_of_the_row_is_what_least_tells(self):
        met = 0
        for source, world, many, (a, w) in self.each_world(21, 400):
            b, k, g = source.randrange(2), source.randrange(11), source.randrange(2 ** many)
            least, row, guarded, guardrow = self.after(
                world, ("least", a, w, b, k), ("row", a, w, b, k), ("guarded", a, w, b, g, k),
                ("guardrow", a, w, b, g, k))
            for told, way in ((least, row), (guarded, guardrow)):
                if told == [-33]:
                    self.assertEqual(way, [-33])
                    continue
                met += 1
                self.assertEqual(way[0], len(way) - 1)
                self.assertEqual(told[1], way[0])
                self.assertLessEqual(told[1], k)
                self.assertEqual(self.after(world, ("price", a, w, b, way[1:]))[0], told[:1])
        self.assertGreater(met, 300)

    def test_the_row_that_is_told_keeps_the_guard(self):
        met = 0
        for source, world, many, (a, w) in self.each_world(22, 400):
            b, g = source.randrange(2), 2 ** source.randrange(many)
            way = self.after(world, ("guardrow", a, w, b, g, 10))[0][1:]
            for steps in range(1, len(way) + 1):
                met += 1
                changed = self.after(world, ("changes", b, way[:steps]))[0][1:]
                self.assertNotIn(g, [2 ** q for q in changed])
        self.assertGreater(met, 100)

    def test_with_more_steps_never_more_is_changed(self):
        for source, world, many, (a, w) in self.each_world(23, 200):
            b, g = source.randrange(2), source.randrange(2 ** many)
            for told in (
                    self.after(world, *[("least", a, w, b, k) for k in range(11)]),
                    self.after(world, *[("guarded", a, w, b, g, k) for k in range(11)])):
                much = [501 if answer == [-33] else answer[0] for answer in told]
                self.assertEqual(much, sorted(much, reverse=True))

    def test_with_more_guarded_never_less(self):
        for source, world, many, (a, w) in self.each_world(24, 200):
            b, k, g = source.randrange(2), source.randrange(11), 0
            much = []
            for q in source.sample(range(many), many) + [0]:
                answer = self.after(world, ("guarded", a, w, b, g, k))[0]
                much.append(501 if answer == [-33] else answer[0])
                g = g | 2 ** q
            self.assertEqual(much, sorted(much))

    def test_with_all_facts_not_of_the_aim_guarded_nothing_is_changed(self):
        met = 0
        for source, world, many, (a, w) in self.each_world(25, 300):
            answer = self.after(world, ("guarded", a, w, source.randrange(2), 2 ** many - 1 - a, 10))[0]
            if answer != [-33]:
                met += 1
                self.assertEqual(answer[0], 0)
        self.assertGreater(met, 100)

    def test_a_guard_of_no_facts_is_none(self):
        for source, world, many, (a, w) in self.each_world(26, 200):
            b, k = source.randrange(2), source.randrange(11)
            least, guarded, row, guardrow = self.after(
                world, ("least", a, w, b, k), ("guarded", a, w, b, 0, k), ("row", a, w, b, k),
                ("guardrow", a, w, b, 0, k))
            self.assertEqual((least, row), (guarded, guardrow))

    def test_waiting_changes_nothing_held_against_what_comes_by_itself(self):
        for source, world, many, aim in self.each_world(27, 100):
            waiting = len([call for call in world if call[0] == "deed"])
            costs, free, guarded, changes = self.after(
                world, ("costs", 0, 0, 1, 10), ("free", 0, 0, 1, 10), ("guarded", 0, 0, 1, 2 ** many - 1, 10),
                ("changes", 1, [waiting] * 10))
            self.assertEqual(costs, [11] + [0] * 11)
            self.assertEqual(free, [many] + list(range(many)))
            self.assertEqual((guarded, changes), ([0, 0], [0]))

    def test_what_comes_by_waiting_costs_nothing_held_against_itself(self):
        for source, world, many, (a, w) in self.each_world(28, 100):
            steps = source.randrange(11)
            state = self.after(world, ("base", 1, steps))[0][0]
            costs, free, first = self.after(
                world, ("costs", a, a & state, 1, 10), ("free", a, a & state, 1, 10), ("firstfree", a, a & state, 1))
            self.assertEqual(costs[1 + steps], 0)
            self.assertEqual(free[1:], [q for q in range(many) if q not in members(a)])
            self.assertLessEqual(first[0], steps)

    def test_without_events_both_are_the_same(self):
        for source, world, many, (a, w) in self.each_world(29, 150, 0):
            k, g = source.randrange(11), source.randrange(2 ** many)
            now, by_itself = (
                self.after(
                    world, ("least", a, w, b, k), ("row", a, w, b, k), ("costs", a, w, b, k),
                    ("guarded", a, w, b, g, k), ("guardrow", a, w, b, g, k), ("free", a, w, b, k),
                    ("firstfree", a, w, b), ("changes", b, [0, 0, 1]))
                for b in (0, 1))
            self.assertEqual(now, by_itself)

    def test_first_free_is_the_fewest_steps_with_which_least_is_none(self):
        for source, world, many, (a, w) in self.each_world(30, 200):
            b = source.randrange(2)
            told = self.after(world, ("firstfree", a, w, b), *[("least", a, w, b, k) for k in range(11)])
            free = [k for k in range(11) if told[1 + k][0] == 0]
            self.assertEqual(told[0], free[:1] or [-33])

    def test_least_is_the_least_of_the_costs(self):
        for source, world, many, (a, w) in self.each_world(31, 200):
            b, k = source.randrange(2), source.randrange(11)
            costs, least = self.after(world, ("costs", a, w, b, k), ("least", a, w, b, k))
            self.assertEqual(costs[0], k + 1)
            self.assertEqual(len(costs), k + 2)
            met = [(much, n) for n, much in enumerate(costs[1:]) if much != -1]
            self.assertEqual(least, list(min(met)) if met else [-33])

    def test_free_facts_are_those_that_can_be_guarded(self):
        for source, world, many, (a, w) in self.each_world(32, 200):
            b, k = source.randrange(2), source.randrange(11)
            told = self.after(
                world, ("free", a, w, b, k), *[("guarded", a, w, b, 2 ** q, k) for q in range(many)])
            free = [q for q in range(many) if q not in members(a) and told[1 + q] != [-33]]
            self.assertEqual(told[0], [len(free)] + free)


if __name__ == "__main__":
    unittest.main()
