"""Promise 4, fewest."""

import itertools
import time
import unittest

from tests.asking import FEWEST, ask, begins, car, free, last, move, want
from tests.model import model_answers

# Five cars of length 2 on five rows: no yard has more arrangements.
FIVE_ROWS = [begins(5, 5)] + [car(0, row, 0, 2) for row in range(5)]

# Car 1 never leaves the middle row of the last column.
SHUT_IN = [begins(3, 3), car(0, 1, 0, 2), car(1, 2, 0, 2)]

# Most of its moves only make room for others.
LONG_WAY = [begins(5, 5), car(0, 1, 0, 3), car(0, 2, 1, 3), car(0, 3, 3, 2), car(1, 3, 0, 2), car(1, 0, 2, 2),
            want(2, 0)]
LONG_WAY_MOVES = [8]


class NothingToDo(unittest.TestCase):
    def test_no_car(self):
        self.assertEqual(last(FEWEST), [0])
        self.assertEqual(last(begins(1, 1), FEWEST), [0])
        self.assertEqual(last(begins(5, 5), FEWEST), [0])

    def test_no_car_is_wanted(self):
        self.assertEqual(last(*FIVE_ROWS, FEWEST), [0])

    def test_everybody_is_where_wanted(self):
        self.assertEqual(last(*FIVE_ROWS, want(0, 0), want(3, 0), FEWEST), [0])
        self.assertEqual(last(begins(1, 5), car(0, 0, 0, 5), want(0, 0), FEWEST), [0])


class Plans(unittest.TestCase):
    def test_one_move_however_far(self):
        for place in (1, 2, 3):
            self.assertEqual(last(begins(1, 5), car(0, 0, 0, 2), want(0, place), FEWEST), [1])
            self.assertEqual(last(begins(5, 1), car(1, 0, 0, 2), want(0, place), FEWEST), [1])

    def test_another_car_has_to_give_way(self):
        self.assertEqual(last(begins(4, 3), car(0, 1, 0, 2), car(1, 2, 0, 2), want(0, 1), FEWEST), [2])
        self.assertEqual(last(begins(1, 5), car(0, 0, 0, 2), car(0, 0, 2, 2), want(0, 1), FEWEST), [2])

    def test_a_car_that_is_where_wanted_gives_way_and_comes_back(self):
        before = [begins(4, 4), car(0, 1, 0, 2), car(1, 2, 0, 2), want(0, 2)]
        self.assertEqual(last(*before, FEWEST), [2])
        self.assertEqual(last(*before, want(1, 2), FEWEST), [2])
        self.assertEqual(last(*before, want(1, 0), FEWEST), [-6])
        before = [begins(4, 5), car(0, 1, 0, 2), car(1, 2, 0, 2), want(0, 3), want(1, 0)]
        self.assertEqual(last(*before, FEWEST), [3])

    def test_each_of_five(self):
        calls = FIVE_ROWS[:]
        for row in range(5):
            calls += [want(row, 3 - row % 3), FEWEST]
        self.assertEqual(ask(*calls)[7::2], [[1], [2], [3], [4], [5]])

    def test_moves_that_were_made_do_not_count(self):
        found = ask(begins(4, 3), car(0, 1, 0, 2), car(1, 2, 0, 2), want(0, 1),
                    FEWEST, move(1, 2), FEWEST, move(0, 1), FEWEST, move(0, 0), FEWEST)
        self.assertEqual(found[4::2], [[2], [1], [0], [1]])

    def test_fewest_moves_nothing(self):
        found = ask(*FIVE_ROWS, want(0, 3), FEWEST, FEWEST, move(1, 2))
        self.assertEqual(found[-3:], [[1], [1], [1, 5, 0, 2, 0, 0, 0]])

    def test_told_behind_fewest_holds_for_the_next(self):
        found = ask(begins(4, 3), car(0, 1, 0, 2), want(0, 1), FEWEST, car(1, 2, 0, 2), FEWEST,
                    free(0), FEWEST, want(1, 1), FEWEST)
        self.assertEqual(found[3::2], [[1], [2], [0], [1]])

    def test_a_long_way(self):
        calls = LONG_WAY + [FEWEST]
        self.assertEqual(last(*calls), LONG_WAY_MOVES)
        self.assertEqual(model_answers(calls)[-1], LONG_WAY_MOVES)


class NoPlan(unittest.TestCase):
    def test_nothing_leads_there(self):
        self.assertEqual(last(*SHUT_IN, want(0, 1), FEWEST), [-6])
        self.assertEqual(last(begins(1, 5), car(0, 0, 0, 2), car(0, 0, 2, 2), want(0, 2), FEWEST), [-6])
        self.assertEqual(last(begins(1, 5), car(0, 0, 0, 2), car(0, 0, 2, 2), want(1, 0), FEWEST), [-6])

    def test_two_are_wanted_on_one_cell(self):
        before = [begins(3, 3), car(0, 0, 0, 2), car(1, 2, 1, 2)]
        self.assertEqual(last(*before, want(0, 1), FEWEST), [1])
        self.assertEqual(last(*before, want(1, 0), FEWEST), [1])
        self.assertEqual(last(*before, want(0, 1), want(1, 0), FEWEST), [-6])

    def test_an_arrangement_to_which_no_moves_lead(self):
        before = [begins(2, 5), car(0, 0, 0, 2), car(1, 2, 0, 2)]
        self.assertEqual(last(*before, want(0, 3), FEWEST), [-6])
        self.assertEqual(last(begins(2, 5), car(0, 0, 3, 2), car(1, 2, 0, 2), want(0, 3), FEWEST), [0])

    def test_all_is_as_it_was_behind_it(self):
        found = ask(*SHUT_IN, want(0, 1), FEWEST, FEWEST, move(1, 1), free(0), FEWEST)
        self.assertEqual(found[4:], [[-6], [-6], [1, 2, 0, 1], [0], [0]])


class EveryWant(unittest.TestCase):
    def check_every_want(self, before, lasts):
        """Each choice of places (or of none) for the cars: as in the model."""
        choices = [[None] + list(range(last_place + 1)) for last_place in lasts]
        for chosen in itertools.product(*choices):
            wants = [want(number, place) for number, place in enumerate(chosen) if place is not None]
            calls = before + wants + [FEWEST]
            self.assertEqual(last(*calls), model_answers(calls)[-1], calls)

    def test_three_cars_about_a_corner(self):
        before = [begins(4, 4), car(0, 0, 0, 2), car(1, 3, 0, 2), car(0, 3, 1, 3)]
        self.check_every_want(before, (2, 2, 1))

    def test_cars_on_one_line(self):
        self.check_every_want([begins(2, 5), car(0, 1, 0, 2), car(0, 1, 2, 2), car(1, 4, 0, 2)], (3, 3, 0))

    def test_a_ring(self):
        before = [begins(3, 3), car(0, 0, 0, 2), car(1, 2, 0, 2), car(0, 2, 1, 2), car(1, 0, 1, 2)]
        self.check_every_want(before, (1, 1, 1, 1))


class InTime(unittest.TestCase):
    def test_asked_many_times_in_one_list(self):
        begun = time.monotonic()
        wants = [want(row, 3) for row in range(5)]
        for last_want in (2, 3):
            calls = FIVE_ROWS + wants[:4] + [want(4, last_want)] + [FEWEST] * 69
            self.assertEqual(len(calls), 80)
            self.assertEqual(ask(*calls)[-69:], [[5]] * 69)
        shut = [begins(5, 5)] + [car(0, row, 0, 2) for row in range(4)] + [car(1, 4, 3, 2), want(4, 0), want(0, 3)]
        self.assertEqual(ask(*shut, *([FEWEST] * 72))[-72:], [[-6]] * 72)
        self.assertLess(time.monotonic() - begun, 30)


if __name__ == "__main__":
    unittest.main()
