"""Promise 1, car."""

import unittest

from tests.asking import FAR_OUT, HIGHEST, ask, begins, car, last, move
from tests.model import model_answers

# Five cars that fill most of a yard of 5 rows and 5 columns; the cells of column 4 from row 2 on stay free.
FIVE = [begins(5, 5), car(0, 0, 0, 5), car(0, 1, 0, 4), car(0, 2, 0, 4), car(0, 3, 0, 4), car(0, 4, 0, 4)]


class Numbers(unittest.TestCase):
    def test_cars_are_numbered_in_order(self):
        self.assertEqual(ask(*FIVE), [[25], [0], [1], [2], [3], [4]])

    def test_a_refused_car_takes_no_number(self):
        self.assertEqual(
            ask(begins(3, 3), car(0, 0, 0, 2), car(0, 0, 1, 2), car(2, 0, 0, 2), car(1, 2, 0, 3)),
            [[9], [0], [-6], [-1], [1]])

    def test_a_sixth_car(self):
        self.assertEqual(last(*FIVE, car(1, 4, 2, 3)), [-5])
        self.assertEqual(last(*FIVE, car(1, 4, 1, 4)), [-5])


class InTheYard(unittest.TestCase):
    def test_every_car_near_the_edges_in_every_yard(self):
        for rows in range(1, 6):
            for columns in range(1, 6):
                for upright in range(3):
                    for line in range(7):
                        for place in range(7):
                            for length in range(8):
                                calls = [begins(rows, columns), car(upright, line, place, length)]
                                self.assertEqual(ask(*calls), model_answers(calls), calls)

    def test_just_reaching_the_end(self):
        self.assertEqual(last(begins(5, 5), car(0, 4, 3, 2)), [0])
        self.assertEqual(last(begins(5, 5), car(0, 4, 4, 2)), [-1])
        self.assertEqual(last(begins(5, 5), car(1, 4, 0, 5)), [0])
        self.assertEqual(last(begins(5, 5), car(1, 4, 1, 5)), [-1])
        self.assertEqual(last(begins(2, 1), car(1, 0, 0, 2)), [0])
        self.assertEqual(last(begins(2, 1), car(0, 0, 0, 2)), [-1])
        self.assertEqual(last(begins(1, 5), car(0, 0, 0, 5)), [0])

    def test_lengths(self):
        found = [last(begins(5, 5), car(0, 0, 0, length)) for length in range(8)]
        self.assertEqual(found, [[-1], [-1], [0], [0], [0], [0], [-1], [-1]])

    def test_wrong_numbers_in_each_place(self):
        for wrong in FAR_OUT:
            for told in (car(wrong, 0, 0, 2), car(0, wrong, 0, 2), car(1, wrong, 0, 2), car(0, 0, wrong, 2),
                         car(1, 0, wrong, 2), car(0, 0, 0, wrong), car(1, 0, 0, wrong), car(wrong, wrong, wrong, wrong)):
                self.assertEqual(last(begins(5, 5), told), [-1], told)
        for wrong in (2, 3, 4, 5):
            self.assertEqual(last(begins(5, 5), car(wrong, 0, 0, 2)), [-1], wrong)

    def test_a_place_and_a_length_that_would_meet_the_end_if_numbers_went_round(self):
        self.assertEqual(last(begins(5, 5), car(0, 0, HIGHEST, 2)), [-1])
        self.assertEqual(last(begins(5, 5), car(1, 0, HIGHEST - 1, 3)), [-1])


class OnFreeCells(unittest.TestCase):
    def test_each_two_cars_of_a_yard(self):
        told = [car(upright, line, place, length)
                for upright in range(2) for line in range(5) for place in range(4) for length in range(2, 6)]
        for rows, columns in ((5, 5), (3, 4), (5, 2)):
            stand = [one for one in told if last(begins(rows, columns), one) == [0]]
            for one in stand:
                for other in stand:
                    calls = [begins(rows, columns), one, other]
                    self.assertEqual(ask(*calls), model_answers(calls), calls)

    def test_one_behind_another(self):
        self.assertEqual(ask(begins(1, 5), car(0, 0, 0, 2), car(0, 0, 2, 3)), [[5], [0], [1]])
        self.assertEqual(ask(begins(1, 5), car(0, 0, 0, 3), car(0, 0, 2, 3)), [[5], [0], [-6]])
        self.assertEqual(ask(begins(5, 1), car(1, 0, 3, 2), car(1, 0, 0, 3)), [[5], [0], [1]])
        self.assertEqual(ask(begins(5, 1), car(1, 0, 3, 2), car(1, 0, 0, 4)), [[5], [0], [-6]])

    def test_crossing(self):
        self.assertEqual(ask(begins(3, 3), car(0, 1, 0, 3), car(1, 1, 0, 3)), [[9], [0], [-6]])

    def test_cells_are_those_where_the_car_stands_now(self):
        before = [begins(3, 4), car(0, 1, 0, 2), move(0, 2)]
        self.assertEqual(last(*before, car(1, 0, 0, 3)), [1])
        self.assertEqual(last(*before, car(1, 1, 0, 3)), [1])
        self.assertEqual(last(*before, car(1, 2, 0, 3)), [-6])
        self.assertEqual(last(*before, car(1, 3, 0, 3)), [-6])

    def test_moves_made_stay_and_the_new_car_has_the_last_place(self):
        found = ask(begins(3, 4), car(0, 1, 0, 2), move(0, 2), car(0, 0, 1, 3), move(0, 1))
        self.assertEqual(found[-2:], [[1], [2, 2, 1, 1]])


class WhichRefusal(unittest.TestCase):
    def test_out_of_the_yard_ahead_of_a_sixth(self):
        for told in (car(2, 0, 0, 2), car(0, 5, 0, 2), car(1, 4, 2, 4), car(1, 4, 2, 1), car(0, 0, HIGHEST, 2)):
            self.assertEqual(last(*FIVE, told), [-1], told)

    def test_a_sixth_ahead_of_a_taken_cell(self):
        self.assertEqual(last(*FIVE, car(0, 0, 0, 2)), [-5])

    def test_out_of_the_yard_ahead_of_a_taken_cell(self):
        before = [begins(3, 3), car(0, 0, 0, 3)]
        for told in (car(0, 0, 0, 4), car(0, 0, 0, 1), car(0, 0, 2, 2), car(2, 0, 0, 2), car(1, 0, 0, 5)):
            self.assertEqual(last(*before, told), [-1], told)

    def test_all_three(self):
        self.assertEqual(last(*FIVE, car(0, 0, 1, 5)), [-1])


if __name__ == "__main__":
    unittest.main()
