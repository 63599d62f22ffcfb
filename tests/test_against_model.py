"""All promises, in lists of calls in any order: as the document said again in tests/model.py answers."""

import random
import unittest

from tests.asking import FEWEST, HARDEST, HIGHEST, PLAN, REACH, STATE, ask, begins, car, free, move, places, want
from tests.model import model_answers


class Chooser:
    """Lists of calls, the same in each run; most numbers are near the edges, a few far out."""

    def __init__(self, seed):
        self.random = random.Random(seed)

    def number(self, most):
        if self.random.randrange(60) == 0:
            return self.random.choice((most + 1, most + 2, HIGHEST - 1, HIGHEST))
        return self.random.randint(0, most)

    def call(self):
        which = self.random.randrange(48)
        if which == 0:
            return begins(self.number(6), self.number(6))
        if which < 9:
            return car(self.number(1), self.number(4), self.number(3), self.random.choice((0, 2, 2, 2, 2, 3, 3, 4, 5)))
        if which < 25:
            return move(self.number(4), self.number(4))
        if which < 32:
            return want(self.number(4), self.number(4))
        if which < 34:
            return free(self.number(4))
        if which < 36:
            return places(self.number(4))
        return self.random.choice((FEWEST, PLAN, PLAN, REACH, HARDEST, HARDEST, STATE, STATE))

    def calls(self, many):
        size = self.random.choice(((5, 5), (5, 5), (4, 5), (3, 4), (1, 5), (5, 2), (3, 3)))
        return [begins(*size)] + [self.call() for number in range(many - 1)]

    def close_together(self):
        """A yard as full of cars as chance has it, one or two of them wanted somewhere, and all that can be asked."""
        size = self.random.choice(((5, 5), (4, 5), (4, 4), (4, 3)))
        calls = [begins(*size)]
        for number in range(30):
            calls.append(car(self.number(1), self.number(4), self.number(3), self.random.choice((2, 2, 3))))
        for number in range(self.random.choice((1, 1, 2, 2, 3))):
            calls.append(want(self.number(4), self.number(3)))
        return calls + [FEWEST, PLAN, REACH, HARDEST, STATE] + [places(number) for number in range(6)]


class AgainstModel(unittest.TestCase):
    def test_lists_of_80_calls(self):
        for seed in range(150):
            calls = Chooser(seed).calls(80)
            self.assertEqual(ask(*calls), model_answers(calls), f"seed {seed}")

    def test_short_lists(self):
        for seed in range(1000, 2500):
            calls = Chooser(seed).calls(12)
            self.assertEqual(ask(*calls), model_answers(calls), f"seed {seed}")

    def test_cars_close_together(self):
        for seed in range(3000, 3300):
            calls = Chooser(seed).close_together()
            self.assertEqual(ask(*calls), model_answers(calls), f"seed {seed}")


if __name__ == "__main__":
    unittest.main()
