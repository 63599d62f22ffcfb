"""Promise 5, hardest."""

import itertools
import unittest

from tests.asking import FEWEST, HARDEST, PLAN, REACH, STATE, ask, begins, car, free, last, move, places, want
from tests.model import model_answers

FIVE_ROWS = [begins(5, 5)] + [car(0, row, 0, 2) for row in range(5)]

# The arrangements that can come about are 0 0, 0 1, 0 2 and 1 2.
CORNER = [begins(4, 3), car(0, 1, 0, 2), car(1, 2, 0, 2)]

# Car 1 never leaves the middle row of the last column.
SHUT_IN = [begins(3, 3), car(0, 1, 0, 2), car(1, 2, 0, 2)]

# The arrangements that can come about are 0 2, 0 3 and 1 3.
TWO_ON_A_LINE = [begins(1, 5), car(0, 0, 0, 2), car(0, 0, 2, 2)]


class NothingToDo(unittest.TestCase):
    def test_no_car(self):
        self.assertEqual(last(HARDEST), [0, 0, 1, 1])
        self.assertEqual(last(begins(1, 1), HARDEST), [0, 0, 1, 1])
        self.assertEqual(last(begins(5, 5), HARDEST), [0, 0, 1, 1])

    def test_no_car_is_wanted_and_all_are_as_far(self):
        self.assertEqual(last(*FIVE_ROWS, HARDEST), [0, 5, 0, 0, 0, 0, 0, 1, 1024])
        self.assertEqual(last(begins(1, 5), car(0, 0, 3, 2), HARDEST), [0, 1, 0, 1, 4])
        self.assertEqual(last(*CORNER, move(1, 2), move(0, 1), HARDEST), [0, 2, 0, 0, 1, 4])
        self.assertEqual(last(*TWO_ON_A_LINE, want(0, 1), free(0), HARDEST), [0, 2, 0, 2, 1, 3])

    def test_a_car_that_can_not_move_at_all(self):
        self.assertEqual(last(begins(1, 5), car(0, 0, 0, 5), HARDEST), [0, 1, 0, 1, 1])
        self.assertEqual(last(begins(1, 5), car(0, 0, 0, 5), want(0, 0), HARDEST), [0, 1, 0, 1, 1])
        self.assertEqual(last(begins(2, 5), car(0, 0, 3, 2), car(1, 2, 0, 2), want(0, 3), HARDEST), [0, 2, 3, 0, 1, 1])


class Hardest(unittest.TestCase):
    def test_one_car(self):
        found = [last(begins(1, 5), car(0, 0, 2, 2), want(0, place), HARDEST) for place in range(4)]
        self.assertEqual(found, [[1, 1, 1, 1, 3], [1, 1, 0, 1, 3], [1, 1, 0, 1, 3], [1, 1, 0, 1, 3]])

    def test_crossing_cars(self):
        self.assertEqual(last(*CORNER, want(0, 1), HARDEST), [2, 2, 0, 0, 1, 2])
        self.assertEqual(last(*CORNER, want(0, 0), HARDEST), [1, 2, 1, 2, 1, 1])
        self.assertEqual(last(*CORNER, want(1, 0), HARDEST), [2, 2, 1, 2, 1, 1])
        self.assertEqual(last(*CORNER, want(1, 2), HARDEST), [1, 2, 0, 0, 1, 2])
        self.assertEqual(last(*CORNER, want(0, 1), want(1, 2), HARDEST), [2, 2, 0, 0, 1, 2])
        self.assertEqual(last(*CORNER, want(0, 0), want(1, 1), HARDEST), [2, 2, 1, 2, 1, 1])

    def test_cars_in_nobodys_way(self):
        calls = FIVE_ROWS[:]
        for row in range(5):
            calls += [want(row, 3), HARDEST]
        self.assertEqual(ask(*calls)[7::2], [
            [1, 5, 0, 0, 0, 0, 0, 1, 768], [2, 5, 0, 0, 0, 0, 0, 1, 576], [3, 5, 0, 0, 0, 0, 0, 1, 432],
            [4, 5, 0, 0, 0, 0, 0, 1, 324], [5, 5, 0, 0, 0, 0, 0, 1, 243]])

    def test_the_nearest_that_is_wanted_counts(self):
        # Car 0 may stand anywhere when car 1 is where it is wanted.
        self.assertEqual(last(*TWO_ON_A_LINE, want(1, 3), HARDEST), [1, 2, 0, 2, 1, 1])
        self.assertEqual(last(*TWO_ON_A_LINE, want(1, 2), HARDEST), [2, 2, 1, 3, 1, 1])

    def test_a_long_way(self):
        calls = [begins(5, 5), car(0, 1, 0, 3), car(0, 2, 1, 3), car(0, 3, 3, 2), car(1, 3, 0, 2), car(1, 0, 2, 2)]
        for number, place in ((2, 0), (0, 2), (4, 0), (1, 0)):
            calls += [want(number, place), HARDEST, free(number)]
        found = ask(*calls)
        self.assertEqual(found, model_answers(calls))
        self.assertGreaterEqual(found[7][0], 8)


class WhichArrangement(unittest.TestCase):
    def test_the_first_car_that_stands_at_different_places_decides(self):
        # 0 1 and 1 0 are as far from 1 1; 0 0 is none.
        before = [begins(3, 3), car(0, 0, 1, 2), car(1, 0, 1, 2), want(0, 1), want(1, 1)]
        self.assertEqual(last(*before, REACH), [3, 1, 3])
        for made in ([], [move(0, 0)], [move(1, 0)]):
            self.assertEqual(last(*before, *made, HARDEST), [1, 2, 0, 1, 1, 2])

    def test_then_the_next_car(self):
        before = [begins(2, 4), car(0, 0, 1, 2), car(0, 1, 1, 2)]
        self.assertEqual(last(*before, want(0, 1), want(1, 1), HARDEST), [2, 2, 0, 0, 1, 4])
        self.assertEqual(last(*before, want(0, 0), want(1, 0), HARDEST), [2, 2, 1, 1, 1, 4])
        self.assertEqual(last(*before, want(0, 0), want(1, 1), HARDEST), [2, 2, 1, 0, 1, 4])
        self.assertEqual(last(*before, want(1, 0), HARDEST), [1, 2, 0, 1, 1, 6])
        self.assertEqual(last(*before, want(0, 0), HARDEST), [1, 2, 1, 0, 1, 6])

    def test_the_same_wherever_the_cars_are_now(self):
        for wants in ([], [want(0, 1)], [want(1, 0)]):
            as_begun = last(*CORNER, *wants, HARDEST)
            for made in ([move(1, 1)], [move(1, 2)], [move(1, 2), move(0, 1)]):
                self.assertEqual(last(*CORNER, *wants, *made, HARDEST), as_begun)
                self.assertEqual(last(*CORNER, HARDEST, *made, *wants, HARDEST), as_begun)

    def test_only_what_can_come_about(self):
        # 2 0, 3 0 and 3 1 are arrangements too, but car 0 never passes car 1.
        self.assertEqual(last(*TWO_ON_A_LINE, want(0, 0), want(1, 3), HARDEST), [1, 2, 0, 2, 1, 2])
        self.assertEqual(last(*TWO_ON_A_LINE, want(0, 1), HARDEST), [2, 2, 0, 2, 1, 1])


class AgainstFewest(unittest.TestCase):
    def hardest_by_fewest(self, size, shapes, at, wants):
        """Of each arrangement that a plan leads to, the fewest from there, asked in a yard of its own."""
        needed = {}
        for to_places in itertools.product(range(4), repeat=len(shapes)):
            before = [size] + [car(*shape[:2], place, shape[2]) for shape, place in zip(shapes, at)]
            told = ask(*before, *[want(number, place) for number, place in enumerate(to_places)], PLAN)
            if [-1] in told or told[-1] == [-6]:
                continue
            there = [size] + [car(*shape[:2], place, shape[2]) for shape, place in zip(shapes, to_places)]
            needed[to_places] = last(*there, *wants, FEWEST)[0]
        if -6 in needed.values():
            self.assertEqual(set(needed.values()), {-6})
            return [-6]
        most = max(needed.values())
        farthest = [to_places for to_places in sorted(needed) if needed[to_places] == most]
        return [most, len(shapes), *farthest[0], 1, len(farthest)]

    def check(self, size, shapes, at, many_wants):
        before = [size] + [car(*shape[:2], place, shape[2]) for shape, place in zip(shapes, at)]
        for chosen in itertools.product((None, 0, 1, 2), repeat=many_wants):
            wants = [want(number, place) for number, place in enumerate(chosen) if place is not None]
            if [-1] in ask(*before, *wants):
                continue
            found = last(*before, *wants, HARDEST)
            self.assertEqual(found, self.hardest_by_fewest(size, shapes, at, wants), before + wants)

    def test_two_cars(self):
        self.check(begins(4, 4), ((0, 0, 2), (1, 3, 2)), (0, 0), 2)
        self.check(begins(4, 3), ((1, 2, 2), (0, 1, 2)), (0, 0), 2)
        self.check(begins(1, 5), ((0, 0, 2), (0, 0, 2)), (3, 0), 2)

    def test_three_cars(self):
        self.check(begins(3, 3), ((0, 0, 2), (1, 2, 2), (0, 2, 2)), (0, 0, 1), 3)
        self.check(begins(4, 4), ((0, 0, 2), (1, 3, 2), (0, 3, 3)), (0, 0, 1), 1)


class NoneSuch(unittest.TestCase):
    def test_nothing_leads_there(self):
        self.assertEqual(last(*SHUT_IN, want(0, 1), HARDEST), [-6])
        self.assertEqual(last(*TWO_ON_A_LINE, want(0, 2), HARDEST), [-6])
        self.assertEqual(last(*TWO_ON_A_LINE, want(1, 0), HARDEST), [-6])
        self.assertEqual(last(begins(2, 5), car(0, 0, 0, 2), car(1, 2, 0, 2), want(0, 3), HARDEST), [-6])

    def test_two_are_wanted_on_one_cell(self):
        self.assertEqual(last(*CORNER, want(0, 1), want(1, 0), HARDEST), [-6])
        self.assertEqual(last(*CORNER, want(0, 1), want(1, 1), HARDEST), [-6])

    def test_each_can_come_about_but_not_together(self):
        # Car 0 comes to stand at 1 and car 1 at 2, but car 1 is then in the way.
        self.assertEqual(ask(*TWO_ON_A_LINE, places(0), places(1))[3:], [[2, 2, 0, 1], [2, 2, 2, 3]])
        self.assertEqual(last(*TWO_ON_A_LINE, want(0, 1), want(1, 2), HARDEST), [-6])

    def test_told_again_when_it_is_wanted_no_more(self):
        found = ask(*SHUT_IN, want(0, 1), HARDEST, free(0), HARDEST, want(1, 1), HARDEST, want(0, 1), HARDEST)
        self.assertEqual(found[4::2], [[-6], [0, 2, 0, 0, 1, 2], [1, 2, 0, 0, 1, 1], [-6]])


class AllAsItWas(unittest.TestCase):
    def test_it_moves_nothing(self):
        self.assertEqual(last(*CORNER, want(0, 1), HARDEST, STATE), [0, 2, 4, 3, 6, 0, 1, 2, 1, 2, 2, 2, 0, 0, 2, 0, 1])

    def test_a_car_told_behind_it_counts_for_the_next(self):
        found = ask(begins(4, 3), HARDEST, car(0, 1, 0, 2), want(0, 1), HARDEST, car(1, 2, 0, 2), HARDEST)
        self.assertEqual([found[1], found[4], found[6]], [[0, 0, 1, 1], [1, 1, 0, 1, 1], [2, 2, 0, 0, 1, 2]])


if __name__ == "__main__":
    unittest.main()
