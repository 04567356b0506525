"""Many lists of calls, always the same ones, against a second telling of the document."""

import random
import unittest

from asking import HIGHEST, ask
from model import model_answers


def some_set(source):
    if source.randrange(40) == 0:
        return HIGHEST
    return source.randrange(source.choice([2, 4, 8, 8, 32]))


def some_rule(source):
    a, b, c, d = (some_set(source) for place in range(4))
    if source.randrange(10) == 0:
        return (a, b, c, d)
    return (a, a & b, c, c & d)


def some_number(source, most):
    return HIGHEST if source.randrange(40) == 0 else source.randrange(most + 1)


def some_row(source):
    most = source.choice([3, 4, 6])
    return [some_number(source, most) for place in range(source.choice([0, 1, 1, 2, 2, 3, 4, 12]))]


def some_aim(source):
    a, w = some_set(source), some_set(source)
    return (a, w) if source.randrange(10) == 0 else (a, a & w)


def some_side(source):
    return source.choice([0, 0, 0, 1, 1, 1, 2])


def some_search(source, name):
    call = (name,) + some_aim(source) + (some_side(source),)
    if name in ("guarded", "guardrow"):
        call = call + (some_set(source),)
    if name != "firstfree":
        call = call + (some_number(source, 11),)
    return call


def some_call(source):
    name = source.choice(
        ["deed", "event", "deed", "event", "do", "do", "do", "base", "base", "set", "now", "weight",
         "weights", "undeed", "unevent", "begin", "changes", "changes", "touches", "price", "price",
         "least", "row", "costs", "guarded", "guardrow", "free", "firstfree"])
    if name == "begin":
        return (name, some_number(source, 6)) if source.randrange(4) == 0 else ("now",)
    if name in ("deed", "event"):
        return (name,) + some_rule(source)
    if name in ("now", "weights"):
        return (name,)
    if name == "weight":
        return (name, some_number(source, 5), some_number(source, 103))
    if name == "base":
        return (name, some_number(source, 2), some_number(source, 42))
    if name == "changes":
        return (name, some_number(source, 2), some_row(source))
    if name == "price":
        return (name,) + some_aim(source) + (some_side(source), some_row(source))
    if name in ("least", "row", "costs", "free", "guarded", "guardrow", "firstfree"):
        return some_search(source, name)
    most = {"set": 16, "do": 4, "undeed": 6, "unevent": 4, "touches": 6}
    return (name, some_number(source, most[name]))


def some_calls(source):
    calls = [("begin", source.randrange(2, 6))] if source.randrange(20) else []
    return calls + [some_call(source) for place in range(source.randrange(1, 60))]


def some_facts(source, fewest, most):
    return sum(2 ** q for q in source.sample(range(5), source.randrange(fewest, most + 1)))


def some_small_rule(source, most_needed):
    a, c = some_facts(source, 0, most_needed), some_facts(source, 1, 2)
    return (a, a & source.randrange(32), c, c & source.randrange(32))


def largest_world(source):
    """Five facts, six deeds and three events; the events need much, so that they leave some ways open."""
    return (
        [("begin", 5)] + [("deed",) + some_small_rule(source, 3) for place in range(6)]
        + [("event",) + some_small_rule(source, 5) for place in range(3)]
        + [("weight", q, source.choice([0, 1, 7, 100])) for q in range(5)] + [("set", source.randrange(32))])


def many_searches(source, many):
    calls = []
    while len(calls) < many:
        a = source.choice([some_facts(source, 0, 5), some_facts(source, 1, 2)])
        w, b, g = a & source.randrange(32), source.randrange(2), some_facts(source, 0, 2)
        calls.extend([
            ("least", a, w, b, 10), ("row", a, w, b, 10), ("costs", a, w, b, 10), ("guarded", a, w, b, g, 10),
            ("guardrow", a, w, b, g, 10), ("free", a, w, b, 10), ("firstfree", a, w, b)])
    return calls[:many]


class AgainstTheModel(unittest.TestCase):
    def test_the_largest_worlds(self):
        source = random.Random(21)
        steps_seen = set()
        for turn in range(25):
            calls = largest_world(source)
            calls = calls + many_searches(source, 60 - len(calls))
            expected = model_answers(calls)
            self.assertEqual(ask(*calls), expected, calls)
            steps_seen.update(answer[0] for call, answer in zip(calls, expected) if call[0] in ("row", "guardrow"))
        self.assertLessEqual({-33, 0, 1, 2, 3}, steps_seen)

    def test_many_lists(self):
        source = random.Random(20)
        seen = set()
        for turn in range(3000):
            calls = some_calls(source)
            expected = model_answers(calls)
            self.assertEqual(ask(*calls), expected, calls)
            seen.update((call[0], min(answer[0], 0)) for call, answer in zip(calls, expected))
        for name, refusals in (
                ("begin", (0, -22)), ("deed", (0, -22, -28, -11)), ("event", (0, -22, -28, -11)),
                ("undeed", (0, -2, -11)), ("unevent", (0, -2, -11)), ("set", (0, -22, -11)),
                ("do", (0, -2, -6, -11)), ("weight", (0, -2, -22, -11)), ("base", (0, -22, -11)),
                ("changes", (0, -2, -22, -11)), ("touches", (0, -2, -6, -11)),
                ("price", (0, -2, -22, -6, -33, -11)), ("least", (0, -22, -33, -11)),
                ("row", (0, -22, -33, -11)), ("costs", (0, -22, -11)), ("guarded", (0, -22, -33, -11)),
                ("guardrow", (0, -22, -33, -11)), ("free", (0, -22, -11)), ("firstfree", (0, -22, -33, -11))):
            for refusal in refusals:
                self.assertIn((name, refusal), seen)


if __name__ == "__main__":
    unittest.main()
