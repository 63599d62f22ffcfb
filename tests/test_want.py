"""Promise 3, want and free."""

import unittest

from tests.asking import FAR_OUT, FEWEST, HIGHEST, ask, begins, car, free, last, move, want

TWO = [begins(4, 5), car(0, 0, 0, 2), car(1, 4, 1, 3)]


class Want(unittest.TestCase):
    def test_answers_how_many_cars_are_wanted(self):
        self.assertEqual(ask(*TWO, want(1, 0), want(0, 3))[-2:], [[1], [2]])

    def test_a_car_is_wanted_at_one_place_alone(self):
        found = ask(*TWO, want(0, 3), want(0, 2), FEWEST, move(0, 2), FEWEST, move(0, 3), FEWEST)
        self.assertEqual(found[3:], [[1], [1], [1], [1, 2, 2, 1], [0], [2, 2, 3, 1], [1]])

    def test_at_the_place_where_it_is(self):
        self.assertEqual(ask(*TWO, want(0, 0), FEWEST)[-2:], [[1], [0]])

    def test_where_another_car_stands_or_is_wanted(self):
        self.assertEqual(ask(begins(1, 5), car(0, 0, 0, 2), car(0, 0, 3, 2), want(0, 3), want(1, 3))[-2:], [[1], [2]])

    def test_it_moves_nothing(self):
        self.assertEqual(last(*TWO, want(0, 3), want(1, 0), move(0, 1)), [1, 2, 1, 1])

    def test_places_at_the_yards_end(self):
        found = [last(*TWO, want(0, place)) for place in range(6)]
        self.assertEqual(found, [[1], [1], [1], [1], [-1], [-1]])
        found = [last(*TWO, want(1, place)) for place in range(6)]
        self.assertEqual(found, [[1], [1], [-1], [-1], [-1], [-1]])
        self.assertEqual(ask(begins(1, 5), car(0, 0, 0, 5), want(0, 1), want(0, 0))[-2:], [[-1], [1]])

    def test_out_of_the_yard(self):
        for wrong in FAR_OUT:
            self.assertEqual(last(*TWO, want(0, wrong)), [-1], wrong)
            self.assertEqual(last(*TWO, want(1, wrong)), [-1], wrong)

    def test_no_such_car(self):
        for wrong in (2, 3, 4, 5) + FAR_OUT:
            self.assertEqual(last(*TWO, want(wrong, 0)), [-2], wrong)

    def test_no_such_car_ahead_of_out_of_the_yard(self):
        for wrong in (2, 5, HIGHEST):
            self.assertEqual(last(*TWO, want(wrong, HIGHEST)), [-2], wrong)
            self.assertEqual(last(*TWO, want(wrong, 4)), [-2], wrong)

    def test_a_refused_want_leaves_it_wanted_where_it_was(self):
        found = ask(*TWO, want(0, 3), want(0, 4), want(2, 0), FEWEST, free(1), free(0))
        self.assertEqual(found[3:], [[1], [-1], [-2], [1], [1], [0]])


class Free(unittest.TestCase):
    def test_answers_how_many_cars_are_wanted_still(self):
        self.assertEqual(ask(*TWO, want(0, 3), want(1, 0), free(0), free(1))[-2:], [[1], [0]])

    def test_a_car_that_is_wanted_nowhere(self):
        self.assertEqual(ask(*TWO, free(0), want(0, 3), free(1), free(0), free(0))[3:], [[0], [1], [1], [0], [0]])

    def test_it_is_wanted_nowhere_any_more(self):
        self.assertEqual(ask(*TWO, want(0, 3), want(0, 2), FEWEST, free(0), FEWEST)[-3:], [[1], [0], [0]])

    def test_the_other_stays_wanted(self):
        self.assertEqual(ask(*TWO, want(0, 2), want(1, 0), FEWEST, free(0), FEWEST, want(0, 1))[-4:],
                         [[2], [1], [1], [2]])

    def test_no_such_car(self):
        for wrong in (2, 3, 4, 5) + FAR_OUT:
            self.assertEqual(ask(*TWO, want(0, 3), free(wrong), free(1))[-2:], [[-2], [1]], wrong)
        self.assertEqual(last(begins(5, 5), free(0)), [-2])


if __name__ == "__main__":
    unittest.main()
