"""Many lists of calls, always the same ones, against a second telling of the document."""

import random
import unittest

from asking import HIGHEST, ask
from model import model_answers


def some_set(source):
    if source.randrange(40) == 0:
        return HIGHEST
    return source.randrange(source.choice([2, 4, 8, 8, 32]))


def some_rule(source):
    a, b, c, d = (some_set(source) for place in range(4))
    if source.randrange(10) == 0:
        return (a, b, c, d)
    return (a, a & b, c, c & d)


def some_number(source, most):
    return HIGHEST if source.randrange(40) == 0 else source.randrange(most + 1)


def some_row(source):
    most = source.choice([3, 4, 6])
    return [some_number(source, most) for place in range(source.choice([0, 1, 1, 2, 2, 3, 4, 12]))]


def some_aim(source):
    a, w = some_set(source), some_set(source)
    return (a, w) if source.randrange(10) == 0 else (a, a & w)


def some_call(source):
    name = source.choice(
        ["deed", "event", "deed", "event", "do", "do", "do", "base", "base", "set", "now", "weight",
         "weights", "undeed", "unevent", "begin", "changes", "changes", "touches", "price", "price"])
    if name == "begin":
        return (name, some_number(source, 6)) if source.randrange(4) == 0 else ("now",)
    if name in ("deed", "event"):
        return (name,) + some_rule(source)
    if name in ("now", "weights"):
        return (name,)
    if name == "weight":
        return (name, some_number(source, 5), some_number(source, 103))
    if name == "base":
        return (name, some_number(source, 2), some_number(source, 42))
    if name == "changes":
        return (name, some_number(source, 2), some_row(source))
    if name == "price":
        return (name,) + some_aim(source) + (source.choice([0, 0, 0, 1, 1, 1, 2]), some_row(source))
    most = {"set": 16, "do": 4, "undeed": 6, "unevent": 4, "touches": 6}
    return (name, some_number(source, most[name]))


def some_calls(source):
    calls = [("begin", source.randrange(2, 6))] if source.randrange(20) else []
    return calls + [some_call(source) for place in range(source.randrange(1, 60))]


class AgainstTheModel(unittest.TestCase):
    def test_many_lists(self):
        source = random.Random(20)
        seen = set()
        for turn in range(3000):
            calls = some_calls(source)
            expected = model_answers(calls)
            self.assertEqual(ask(*calls), expected, calls)
            seen.update((call[0], min(answer[0], 0)) for call, answer in zip(calls, expected))
        for name, refusals in (
                ("begin", (0, -22)), ("deed", (0, -22, -28, -11)), ("event", (0, -22, -28, -11)),
                ("undeed", (0, -2, -11)), ("unevent", (0, -2, -11)), ("set", (0, -22, -11)),
                ("do", (0, -2, -6, -11)), ("weight", (0, -2, -22, -11)), ("base", (0, -22, -11)),
                ("changes", (0, -2, -22, -11)), ("touches", (0, -2, -6, -11)),
                ("price", (0, -2, -22, -6, -33, -11))):
            for refusal in refusals:
                self.assertIn((name, refusal), seen)


if __name__ == "__main__":
    unittest.main()
