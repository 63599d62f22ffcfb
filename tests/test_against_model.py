"""Promises 1 to 4 in lists of calls in any order: as the document said again in tests/model.py answers."""

import random
import unittest

from tests.asking import FEWEST, HIGHEST, ask, begins, car, free, move, want
from tests.model import model_answers


class Chooser:
    """Lists of calls, the same in each run; most numbers are near the edges, a few far out."""

    def __init__(self, seed):
        self.random = random.Random(seed)

    def number(self, most):
        if self.random.randrange(60) == 0:
            return self.random.choice((most + 1, most + 2, HIGHEST - 1, HIGHEST))
        return self.random.randint(0, most)

    def call(self):
        which = self.random.randrange(40)
        if which == 0:
            return begins(self.number(6), self.number(6))
        if which < 9:
            return car(self.number(1), self.number(4), self.number(3), self.random.choice((0, 2, 2, 2, 2, 3, 3, 4, 5)))
        if which < 25:
            return move(self.number(4), self.number(4))
        if which < 32:
            return want(self.number(4), self.number(4))
        if which < 36:
            return free(self.number(4))
        return FEWEST

    def calls(self, many):
        size = self.random.choice(((5, 5), (5, 5), (4, 5), (3, 4), (1, 5), (5, 2), (3, 3)))
        return [begins(*size)] + [self.call() for number in range(many - 1)]


class AgainstModel(unittest.TestCase):
    def test_lists_of_80_calls(self):
        for seed in range(150):
            calls = Chooser(seed).calls(80)
            self.assertEqual(ask(*calls), model_answers(calls), f"seed {seed}")

    def test_short_lists(self):
        for seed in range(1000, 2500):
            calls = Chooser(seed).calls(12)
            self.assertEqual(ask(*calls), model_answers(calls), f"seed {seed}")


if __name__ == "__main__":
    unittest.main()
