"""The call reach."""

import unittest

from tests.asking import REACH, STATE, ask, begins, car, free, last, move, want
from tests.model import model_answers

FIVE_ROWS = [begins(5, 5)] + [car(0, row, 0, 2) for row in range(5)]
CORNER = [begins(4, 3), car(0, 1, 0, 2), car(1, 2, 0, 2)]
TWO_ON_A_LINE = [begins(1, 5), car(0, 0, 0, 2), car(0, 0, 2, 2)]


class NoCar(unittest.TestCase):
    def test_the_one_arrangement_of_no_car(self):
        self.assertEqual(last(REACH), [1, 1, 1])
        self.assertEqual(last(begins(1, 1), REACH), [1, 1, 1])
        self.assertEqual(last(begins(5, 5), REACH), [1, 1, 1])
        self.assertEqual(last(*FIVE_ROWS, begins(5, 5), REACH), [1, 1, 1])


class Reach(unittest.TestCase):
    def test_one_car(self):
        for length in (2, 3, 4, 5):
            for place in range(6 - length):
                self.assertEqual(last(begins(1, 5), car(0, 0, place, length), REACH), [6 - length, 1, 6 - length])
                self.assertEqual(last(begins(5, 2), car(1, 1, place, length), REACH), [6 - length, 1, 6 - length])

    def test_cars_in_nobodys_way(self):
        self.assertEqual(last(*FIVE_ROWS, REACH), [1024, 1, 1024])

    def test_crossing_cars(self):
        self.assertEqual(last(*CORNER, REACH), [4, 1, 4])

    def test_cars_on_one_line_stand_in_any_order_but_do_not_pass(self):
        self.assertEqual(last(*TWO_ON_A_LINE, REACH), [3, 1, 6])
        self.assertEqual(last(begins(1, 4), car(0, 0, 2, 2), car(0, 0, 0, 2), REACH), [1, 1, 2])

    def test_a_car_that_can_not_move(self):
        self.assertEqual(last(begins(1, 5), car(0, 0, 0, 5), REACH), [1, 1, 1])
        self.assertEqual(last(begins(2, 5), car(0, 0, 0, 2), car(1, 2, 0, 2), REACH), [1, 1, 2])
        self.assertEqual(last(begins(2, 5), car(0, 0, 0, 2), car(1, 2, 0, 2), car(0, 1, 3, 2), REACH), [1, 1, 4])

    def test_several_moves_away(self):
        ring = [begins(3, 3), car(0, 0, 0, 2), car(1, 2, 0, 2), car(0, 2, 1, 2), car(1, 0, 1, 2)]
        self.assertEqual(last(*ring, REACH), model_answers(ring + [REACH])[-1])
        self.assertEqual(last(*ring, REACH), [1, 1, 2])
        self.assertEqual(last(*ring[:-1], REACH), [4, 1, 4])


class WhatStaysTheSame(unittest.TestCase):
    def test_from_wherever_moves_lead(self):
        for made in ([move(1, 2)], [move(1, 1)], [move(1, 2), move(0, 1)]):
            self.assertEqual(last(*CORNER, *made, REACH), [4, 1, 4])
            self.assertEqual(last(*CORNER, REACH, *made, REACH), [4, 1, 4])
        self.assertEqual(last(*TWO_ON_A_LINE, move(1, 3), move(0, 1), REACH), [3, 1, 6])

    def test_wherever_cars_are_wanted(self):
        self.assertEqual(last(*CORNER, want(0, 1), want(1, 0), REACH), [4, 1, 4])
        self.assertEqual(last(*CORNER, want(0, 1), free(0), REACH), [4, 1, 4])

    def test_a_car_told_behind_it_counts_for_the_next(self):
        found = ask(begins(5, 5), REACH, car(0, 0, 0, 2), REACH, car(0, 1, 0, 3), REACH, car(0, 9, 0, 3), REACH)
        self.assertEqual(found[1::2], [[1, 1, 1], [4, 1, 4], [12, 1, 12], [12, 1, 12]])

    def test_a_yard_begun_behind_it_counts_for_the_next(self):
        found = ask(*CORNER, REACH, begins(0, 1), REACH, begins(4, 3), REACH, *CORNER[1:], REACH)
        self.assertEqual([found[3], found[5], found[7], found[10]], [[4, 1, 4], [4, 1, 4], [1, 1, 1], [4, 1, 4]])

    def test_it_moves_nothing(self):
        self.assertEqual(last(*CORNER, move(1, 1), REACH, STATE), [1, 2, 4, 3, 6, 0, 1, 2, 1, 2, 2, 2, 0, 1, 0])


if __name__ == "__main__":
    unittest.main()
