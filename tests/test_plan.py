"""Promise 4, plan."""

import itertools
import unittest

from tests.asking import FEWEST, PLAN, STATE, ask, begins, car, free, last, move, want
from tests.model import model_answers

FIVE_ROWS = [begins(5, 5)] + [car(0, row, 0, 2) for row in range(5)]

# Car 1 never leaves the middle row of the last column.
SHUT_IN = [begins(3, 3), car(0, 1, 0, 2), car(1, 2, 0, 2)]

# Car 1 stands in the way of car 0, and can give way up and down.
IN_THE_WAY = [begins(5, 3), car(0, 2, 0, 2), car(1, 2, 1, 2), want(0, 1)]

# Most of its moves only make room for others.
LONG_WAY = [begins(5, 5), car(0, 1, 0, 3), car(0, 2, 1, 3), car(0, 3, 3, 2), car(1, 3, 0, 2), car(1, 0, 2, 2),
            want(2, 0)]


def moves_of(answer):
    """The calls that make the moves of a plan."""
    many, behind = answer[0], answer[2:]
    if answer[1] != 2 * many or len(behind) != 2 * many:
        raise AssertionError(f"misspelled plan: {answer!r}")
    return [move(*behind[at:at + 2]) for at in range(0, 2 * many, 2)]


class NothingToDo(unittest.TestCase):
    def test_no_car(self):
        self.assertEqual(last(PLAN), [0, 0])
        self.assertEqual(last(begins(1, 1), PLAN), [0, 0])
        self.assertEqual(last(begins(5, 5), PLAN), [0, 0])

    def test_no_car_is_wanted(self):
        self.assertEqual(last(*FIVE_ROWS, PLAN), [0, 0])
        self.assertEqual(last(*FIVE_ROWS, want(3, 1), free(3), PLAN), [0, 0])

    def test_everybody_is_where_wanted(self):
        self.assertEqual(last(*FIVE_ROWS, want(0, 0), want(3, 0), PLAN), [0, 0])
        self.assertEqual(last(begins(1, 5), car(0, 0, 0, 5), want(0, 0), PLAN), [0, 0])


class Plans(unittest.TestCase):
    def test_one_move_however_far(self):
        for place in (1, 2, 3):
            self.assertEqual(last(begins(1, 5), car(0, 0, 0, 2), want(0, place), PLAN), [1, 2, 0, place])
            self.assertEqual(last(begins(5, 1), car(1, 0, 0, 2), want(0, place), PLAN), [1, 2, 0, place])
        for place in (0, 1, 2):
            self.assertEqual(last(begins(1, 5), car(0, 0, 3, 2), want(0, place), PLAN), [1, 2, 0, place])

    def test_another_car_has_to_give_way(self):
        self.assertEqual(last(begins(4, 3), car(0, 1, 0, 2), car(1, 2, 0, 2), want(0, 1), PLAN), [2, 4, 1, 2, 0, 1])
        self.assertEqual(last(begins(1, 5), car(0, 0, 0, 2), car(0, 0, 2, 2), want(0, 1), PLAN), [2, 4, 1, 3, 0, 1])

    def test_a_car_gives_way_and_comes_back(self):
        before = [begins(4, 5), car(0, 1, 0, 2), car(1, 2, 0, 2), want(0, 3), want(1, 0)]
        self.assertEqual(last(*before, PLAN), [3, 6, 1, 2, 0, 3, 1, 0])

    def test_cars_that_are_wanted_nowhere_stay_where_they_are_not_in_the_way(self):
        self.assertEqual(last(*FIVE_ROWS, want(2, 3), PLAN), [1, 2, 2, 3])

    def test_it_begins_where_the_cars_are_now(self):
        found = ask(begins(4, 3), car(0, 1, 0, 2), car(1, 2, 0, 2), want(0, 1),
                    PLAN, move(1, 2), PLAN, move(0, 1), PLAN, move(0, 0), PLAN)
        self.assertEqual(found[4::2], [[2, 4, 1, 2, 0, 1], [1, 2, 0, 1], [0, 0], [1, 2, 0, 1]])

    def test_a_car_told_behind_it_stands_in_the_way_of_the_next(self):
        found = ask(begins(4, 3), car(0, 1, 0, 2), want(0, 1), PLAN, car(1, 2, 0, 2), PLAN)
        self.assertEqual(found[3::2], [[1, 2, 0, 1], [2, 4, 1, 2, 0, 1]])

    def test_a_long_way(self):
        found = last(*LONG_WAY, PLAN)
        self.assertEqual(found[0], 8)
        self.assertEqual(found, model_answers(LONG_WAY + [PLAN])[-1])
        made = ask(*LONG_WAY, *moves_of(found), FEWEST)[len(LONG_WAY):]
        self.assertEqual([answer[0] for answer in made], [1, 2, 3, 4, 5, 6, 7, 8, 0])


class WhichPlan(unittest.TestCase):
    def test_the_car_with_the_lesser_number_first(self):
        wants = [want(row, 3 - row % 3) for row in range(5)]
        told = [number for row in range(5) for number in (row, 3 - row % 3)]
        self.assertEqual(last(*FIVE_ROWS, *wants, PLAN), [5, 10] + told)
        self.assertEqual(last(*FIVE_ROWS, *reversed(wants), PLAN), [5, 10] + told)

    def test_the_same_car_to_the_lesser_place(self):
        self.assertEqual(last(*IN_THE_WAY, PLAN), [2, 4, 1, 0, 0, 1])
        self.assertEqual(last(*IN_THE_WAY, move(1, 2), PLAN), [2, 4, 1, 0, 0, 1])
        self.assertEqual(last(begins(4, 5), car(0, 0, 0, 2), car(1, 2, 0, 2), want(0, 3), PLAN), [2, 4, 1, 1, 0, 3])

    def test_the_lesser_car_ahead_of_the_lesser_place(self):
        before = [begins(2, 5), car(0, 0, 0, 2), car(0, 1, 3, 2), want(1, 0), want(0, 3)]
        self.assertEqual(last(*before, PLAN), [2, 4, 0, 3, 1, 0])

    def test_the_first_move_that_differs_counts_not_those_behind(self):
        # Car 0 could go second or last as well: it is in nobody's way.
        before = [begins(5, 5), car(0, 4, 0, 2), car(0, 2, 0, 2), car(1, 2, 1, 2), want(1, 1), want(0, 1)]
        self.assertEqual(last(*before, PLAN), [3, 6, 0, 1, 2, 0, 1, 1])

    def test_the_first_of_all_moves_one_behind_another(self):
        yards = [
            IN_THE_WAY,
            IN_THE_WAY + [want(1, 3)],
            IN_THE_WAY + [move(1, 3), want(1, 0)],
            [begins(4, 4), car(0, 0, 0, 2), car(1, 3, 0, 2), want(0, 2), want(1, 1)],
            [begins(4, 4), car(1, 3, 0, 2), car(0, 0, 0, 2), want(1, 2)],
            [begins(4, 4), car(0, 0, 0, 2), car(1, 3, 0, 2), car(0, 3, 1, 3), want(0, 2)],
            [begins(2, 4), car(0, 1, 2, 2), car(0, 0, 2, 2), want(1, 0), want(0, 1)],
            [begins(3, 5), car(0, 0, 0, 2), car(0, 0, 2, 2), car(1, 4, 0, 2), want(0, 1)],
            [begins(3, 3), car(0, 0, 0, 2), car(1, 2, 0, 2), car(0, 2, 1, 2), want(0, 1)],
        ]
        for before in yards:
            self.assertEqual(last(*before, PLAN), self.first_by_trying(before), before)

    def first_by_trying(self, before):
        """All moves one behind another, rising, are made: the first that lead there, as few as can be."""
        cars = sum(1 for call in before if call[0] == 1)
        told = [(number, place) for number in range(cars) for place in range(4)]
        for many in range(4):
            for chosen in itertools.product(told, repeat=many):
                found = ask(*before, *[move(*one) for one in chosen], FEWEST)[len(before):]
                if [-6] not in found and found[-1] == [0]:
                    return [many, 2 * many] + [number for one in chosen for number in one]
        raise AssertionError("no such moves")


class MovesOfThePlan(unittest.TestCase):
    def test_they_lead_there_and_each_brings_it_nearer(self):
        for wants in itertools.product((None, 0, 1, 2), (None, 0, 2), (None, 1)):
            before = [begins(4, 4), car(0, 0, 0, 2), car(1, 3, 0, 2), car(0, 3, 1, 3)]
            before += [want(number, place) for number, place in enumerate(wants) if place is not None]
            found = last(*before, PLAN)
            self.assertEqual(found[:1], last(*before, FEWEST), before)
            if found == [-6]:
                continue
            calls = before[:]
            for left, call in zip(range(found[0] - 1, -1, -1), moves_of(found)):
                calls += [call, FEWEST]
                made = ask(*calls)
                self.assertNotEqual(made[-2], [-6], calls)
                self.assertEqual(made[-1], [left], calls)


class NoPlan(unittest.TestCase):
    def test_nothing_leads_there(self):
        self.assertEqual(last(*SHUT_IN, want(0, 1), PLAN), [-6])
        self.assertEqual(last(begins(1, 5), car(0, 0, 0, 2), car(0, 0, 2, 2), want(0, 2), PLAN), [-6])
        self.assertEqual(last(begins(1, 5), car(0, 0, 0, 2), car(0, 0, 2, 2), want(1, 0), PLAN), [-6])

    def test_two_are_wanted_on_one_cell(self):
        before = [begins(3, 3), car(0, 0, 0, 2), car(1, 2, 1, 2)]
        self.assertEqual(last(*before, want(0, 1), PLAN), [1, 2, 0, 1])
        self.assertEqual(last(*before, want(0, 1), want(1, 0), PLAN), [-6])

    def test_an_arrangement_to_which_no_moves_lead(self):
        self.assertEqual(last(begins(2, 5), car(0, 0, 0, 2), car(1, 2, 0, 2), want(0, 3), PLAN), [-6])
        self.assertEqual(last(begins(2, 5), car(0, 0, 3, 2), car(1, 2, 0, 2), want(0, 3), PLAN), [0, 0])

    def test_a_plan_again_when_it_is_wanted_no_more(self):
        found = ask(*SHUT_IN, want(0, 1), PLAN, free(0), PLAN, want(1, 1), PLAN, STATE)
        self.assertEqual(found[4::2], [[-6], [0, 0], [1, 2, 1, 1]])
        self.assertEqual(found[-1], [0, 2, 3, 3, 6, 0, 1, 2, 1, 2, 2, 2, 0, 0, 2, 1, 1])


if __name__ == "__main__":
    unittest.main()
