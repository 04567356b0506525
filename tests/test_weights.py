"""Promise 1: weight and weights."""

import unittest

from asking import HIGHEST, ask, ask_last


class Weight(unittest.TestCase):
    def test_it_answers_what_it_was(self):
        answered = ask(
            ("begin", 3), ("weight", 1, 7), ("weight", 1, 20), ("weight", 1, 20), ("weight", 0, 3),
            ("weights",))
        self.assertEqual(answered[1:], [[1], [7], [20], [1], [3, 3, 20, 1]])

    def test_from_none_to_a_hundred(self):
        answered = ask(
            ("begin", 2), ("weight", 0, 0), ("weight", 0, 100), ("weight", 0, 1), ("weight", 1, 100),
            ("weights",))
        self.assertEqual(answered[1:], [[1], [0], [100], [1], [2, 1, 100]])

    def test_above_a_hundred(self):
        for weight in (101, 102, 1000, HIGHEST):
            answered = ask(("begin", 2), ("weight", 0, 9), ("weight", 0, weight), ("weights",))
            self.assertEqual(answered[2:], [[-22], [2, 9, 1]])

    def test_no_such_fact(self):
        for many in (2, 3, 4, 5):
            for fact in (many, many + 1, HIGHEST):
                answered = ask(("begin", many), ("weight", fact, 9), ("weights",))
                self.assertEqual(answered[1:], [[-2], [many] + [1] * many])

    def test_every_fact(self):
        for many in (2, 3, 4, 5):
            for fact in range(many):
                weights = [1] * many
                weights[fact] = 42
                self.assertEqual(
                    ask(("begin", many), ("weight", fact, 42), ("weights",))[1:], [[1], [many] + weights])

    def test_no_such_fact_comes_ahead_of_above_a_hundred(self):
        self.assertEqual(ask_last(("begin", 2), ("weight", 2, 101)), [-2])
        self.assertEqual(ask_last(("begin", 2), ("weight", HIGHEST, HIGHEST)), [-2])

    def test_how_it_stands_does_not_change_by_it(self):
        self.assertEqual(ask_last(("begin", 2), ("set", 2), ("weight", 0, 50), ("now",)), [2])

    def test_steps_do_not_change_it(self):
        answered = ask(
            ("begin", 2), ("weight", 0, 50), ("deed", 0, 0, 1, 1), ("event", 0, 0, 2, 2), ("do", 0),
            ("set", 0), ("undeed", 0), ("unevent", 0), ("weights",))
        self.assertEqual(answered[8], [2, 50, 1])


class Weights(unittest.TestCase):
    def test_how_many_then_they(self):
        answered = ask(
            ("begin", 5), ("weight", 4, 5), ("weight", 3, 4), ("weight", 2, 3), ("weight", 1, 2),
            ("weights",), ("weights",))
        self.assertEqual(answered[5:], [[5, 1, 2, 3, 4, 5], [5, 1, 2, 3, 4, 5]])


if __name__ == "__main__":
    unittest.main()
