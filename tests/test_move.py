"""Promise 2, move."""

import unittest

from tests.asking import FAR_OUT, FEWEST, HIGHEST, ask, begins, car, last, move, want
from tests.model import model_answers


class Moves(unittest.TestCase):
    def test_answers_how_many_moves_and_all_places(self):
        found = ask(begins(3, 5), car(0, 0, 0, 2), car(1, 4, 0, 2), car(0, 2, 1, 3),
                    move(0, 1), move(2, 0), move(1, 1), move(0, 3))
        self.assertEqual(found[4:], [[1, 3, 1, 0, 1], [2, 3, 1, 0, 0], [3, 3, 1, 1, 0], [4, 3, 3, 1, 0]])

    def test_however_far(self):
        self.assertEqual(last(begins(1, 5), car(0, 0, 0, 2), move(0, 3)), [1, 1, 3])
        self.assertEqual(last(begins(5, 1), car(1, 0, 3, 2), move(0, 0)), [1, 1, 0])

    def test_to_and_fro(self):
        found = ask(begins(5, 1), car(1, 0, 1, 2), move(0, 3), move(0, 0), move(0, 1))
        self.assertEqual(found[2:], [[1, 1, 3], [2, 1, 0], [3, 1, 1]])

    def test_onto_cells_that_it_leaves_only_in_part(self):
        self.assertEqual(last(begins(1, 5), car(0, 0, 0, 4), move(0, 1)), [1, 1, 1])


class CanNot(unittest.TestCase):
    def test_it_is_there_already(self):
        self.assertEqual(last(begins(3, 3), car(0, 0, 1, 2), move(0, 1)), [-6])
        self.assertEqual(last(begins(1, 5), car(0, 0, 0, 5), move(0, 0)), [-6])

    def test_out_of_the_yard(self):
        self.assertEqual(last(begins(1, 4), car(0, 0, 0, 2), move(0, 2)), [1, 1, 2])
        self.assertEqual(last(begins(1, 4), car(0, 0, 0, 2), move(0, 3)), [-6])
        self.assertEqual(last(begins(4, 1), car(1, 0, 0, 2), move(0, 3)), [-6])
        self.assertEqual(last(begins(4, 5), car(1, 0, 0, 2), move(0, 3)), [-6])
        for wrong in FAR_OUT:
            self.assertEqual(last(begins(5, 5), car(0, 0, 0, 2), move(0, wrong)), [-6], wrong)

    def test_another_car_stands_on_a_cell_that_it_would_stand_on(self):
        before = [begins(3, 5), car(0, 1, 0, 2), car(1, 3, 0, 2)]
        self.assertEqual(last(*before, move(0, 1)), [1, 2, 1, 0])
        self.assertEqual(last(*before, move(0, 2)), [-6])
        self.assertEqual(last(*before, move(0, 3)), [-6])

    def test_another_car_stands_between(self):
        self.assertEqual(last(begins(2, 5), car(0, 0, 0, 2), car(1, 2, 0, 2), move(0, 3)), [-6])
        self.assertEqual(last(begins(2, 5), car(0, 0, 3, 2), car(1, 2, 0, 2), move(0, 0)), [-6])
        self.assertEqual(last(begins(5, 2), car(1, 1, 0, 2), car(0, 2, 0, 2), move(0, 3)), [-6])

    def test_cars_on_one_line_do_not_pass(self):
        before = [begins(1, 5), car(0, 0, 0, 2), car(0, 0, 2, 2)]
        self.assertEqual([last(*before, move(0, place)) for place in range(4)], [[-6]] * 4)
        self.assertEqual([last(*before, move(1, place)) for place in range(4)], [[-6], [-6], [-6], [1, 2, 0, 3]])

    def test_each_move_of_two_cars(self):
        told = [car(upright, line, place, length)
                for upright in range(2) for line in range(4) for place in range(4) for length in range(2, 4)]
        for one in told:
            for other in told:
                before = [begins(4, 5), one, other]
                if [-1] in model_answers(before) or [-6] in model_answers(before):
                    continue
                for place in range(5):
                    for number in range(2):
                        calls = before + [move(number, place)]
                        self.assertEqual(ask(*calls), model_answers(calls), calls)


class WhichRefusal(unittest.TestCase):
    def test_no_such_car(self):
        before = [begins(3, 3), car(0, 0, 0, 2)]
        for wrong in (1, 2, 3, 4, 5) + FAR_OUT:
            self.assertEqual(last(*before, move(wrong, 1)), [-2], wrong)
        self.assertEqual(last(begins(3, 3), move(0, 0)), [-2])

    def test_no_such_car_ahead_of_what_can_not_be(self):
        before = [begins(3, 3), car(0, 0, 0, 2)]
        for place in (0, 3, HIGHEST):
            self.assertEqual(last(*before, move(1, place)), [-2])
            self.assertEqual(last(*before, move(HIGHEST, place)), [-2])

    def test_a_refused_move_is_not_counted_and_moves_nothing(self):
        found = ask(begins(1, 5), car(0, 0, 1, 2), want(0, 3), move(0, 1), move(0, 4), move(1, 0), move(0, HIGHEST),
                    FEWEST, move(0, 3))
        self.assertEqual(found[3:], [[-6], [-6], [-2], [-6], [1], [1, 1, 3]])


if __name__ == "__main__":
    unittest.main()
