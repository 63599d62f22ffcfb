"""The call places, and the refusal of a car that isn't there."""

import unittest

from tests.asking import FAR_OUT, STATE, ask, begins, car, last, move, places, want
from tests.model import model_answers

CORNER = [begins(4, 3), car(0, 1, 0, 2), car(1, 2, 0, 2)]
SHUT_IN = [begins(3, 3), car(0, 1, 0, 2), car(1, 2, 0, 2)]
TWO_ON_A_LINE = [begins(1, 5), car(0, 0, 0, 2), car(0, 0, 2, 2)]


class Places(unittest.TestCase):
    def test_one_car(self):
        for place in range(4):
            self.assertEqual(last(begins(1, 5), car(0, 0, place, 2), places(0)), [4, 4, 0, 1, 2, 3])
            self.assertEqual(last(begins(5, 3), car(1, 1, place, 2), places(0)), [4, 4, 0, 1, 2, 3])
        self.assertEqual(last(begins(3, 5), car(1, 1, 1, 2), places(0)), [2, 2, 0, 1])

    def test_a_car_that_can_not_move(self):
        self.assertEqual(last(begins(1, 5), car(0, 0, 0, 5), places(0)), [1, 1, 0])
        self.assertEqual(last(begins(2, 5), car(0, 0, 3, 2), car(1, 2, 0, 2), places(0)), [1, 1, 3])
        self.assertEqual(ask(*SHUT_IN, places(0), places(1))[3:], [[1, 1, 0], [2, 2, 0, 1]])

    def test_where_others_give_way_too(self):
        self.assertEqual(ask(*CORNER, places(0), places(1))[3:], [[2, 2, 0, 1], [3, 3, 0, 1, 2]])

    def test_cars_on_one_line(self):
        self.assertEqual(ask(*TWO_ON_A_LINE, places(0), places(1))[3:], [[2, 2, 0, 1], [2, 2, 2, 3]])
        self.assertEqual(ask(begins(1, 5), car(0, 0, 3, 2), car(0, 0, 1, 2), places(0), places(1))[3:],
                         [[2, 2, 2, 3], [2, 2, 0, 1]])

    def test_each_of_five(self):
        five = [begins(5, 5)] + [car(1, 4 - column, 0, 2 + column % 4) for column in range(5)]
        self.assertEqual(ask(*five, *[places(number) for number in range(5)])[6:],
                         [[4, 4, 0, 1, 2, 3], [3, 3, 0, 1, 2], [2, 2, 0, 1], [1, 1, 0], [4, 4, 0, 1, 2, 3]])

    def test_a_long_way(self):
        calls = [begins(5, 5), car(0, 1, 0, 3), car(0, 2, 1, 3), car(0, 3, 3, 2), car(1, 3, 0, 2), car(1, 0, 2, 2)]
        calls += [places(number) for number in range(5)]
        self.assertEqual(ask(*calls), model_answers(calls))

    def test_the_same_behind_moves_and_wants(self):
        found = ask(*CORNER, places(0), move(1, 2), places(0), move(0, 1), places(0), want(1, 0), places(1))
        self.assertEqual(found[3::2], [[2, 2, 0, 1]] * 3 + [[3, 3, 0, 1, 2]])

    def test_a_car_told_behind_it_counts_for_the_next(self):
        found = ask(begins(2, 5), car(0, 0, 0, 2), places(0), car(1, 4, 0, 2), places(0), car(1, 2, 0, 2), places(0))
        self.assertEqual(found[2::2], [[4, 4, 0, 1, 2, 3], [3, 3, 0, 1, 2], [1, 1, 0]])

    def test_it_moves_nothing(self):
        self.assertEqual(last(*CORNER, places(1), STATE), [0, 2, 4, 3, 6, 0, 1, 2, 1, 2, 2, 2, 0, 0, 0])


class NoSuchCar(unittest.TestCase):
    def test_no_car(self):
        for number in (0, 1, 4, 5) + FAR_OUT:
            self.assertEqual(last(places(number)), [-2], number)
            self.assertEqual(last(begins(5, 5), places(number)), [-2], number)

    def test_behind_the_last(self):
        for number in (2, 3, 4, 5) + FAR_OUT:
            self.assertEqual(last(*CORNER, places(number)), [-2], number)

    def test_of_five(self):
        five = [begins(5, 5)] + [car(0, row, 0, 2) for row in range(5)]
        self.assertEqual(last(*five, places(4)), [4, 4, 0, 1, 2, 3])
        for number in (5,) + FAR_OUT:
            self.assertEqual(last(*five, places(number)), [-2], number)

    def test_a_car_that_was_there_before_all_was_new(self):
        self.assertEqual(last(*CORNER, begins(4, 3), places(0)), [-2])
        self.assertEqual(last(*CORNER, places(0), begins(4, 3), places(0)), [-2])


if __name__ == "__main__":
    unittest.main()
