"""Promise 1, begins."""

import unittest

from tests.asking import FAR_OUT, FEWEST, ask, begins, car, free, last, move, want


class Begins(unittest.TestCase):
    def test_answers_how_many_cells(self):
        for rows in range(1, 6):
            for columns in range(1, 6):
                self.assertEqual(ask(begins(rows, columns)), [[rows * columns]])

    def test_wrong_numbers(self):
        for wrong in (0,) + FAR_OUT:
            self.assertEqual(ask(begins(wrong, 3)), [[-1]], wrong)
            self.assertEqual(ask(begins(3, wrong)), [[-1]], wrong)
            self.assertEqual(ask(begins(wrong, wrong)), [[-1]], wrong)

    def test_rows_and_columns_are_told_apart(self):
        self.assertEqual(ask(begins(2, 4), car(0, 1, 2, 2), car(1, 3, 0, 2)), [[8], [0], [-6]])
        self.assertEqual(ask(begins(2, 4), car(0, 2, 0, 2)), [[8], [-1]])
        self.assertEqual(ask(begins(4, 2), car(0, 3, 0, 2), car(1, 1, 0, 3)), [[8], [0], [1]])
        self.assertEqual(ask(begins(4, 2), car(1, 2, 0, 2)), [[8], [-1]])


class AtItsBeginning(unittest.TestCase):
    def test_one_cell_and_no_car(self):
        self.assertEqual(
            ask(FEWEST, move(0, 0), want(0, 0), free(0), car(0, 0, 0, 2), car(1, 0, 0, 2), FEWEST),
            [[0], [-2], [-2], [-2], [-1], [-1], [0]])

    def test_the_same_as_begun_with_one_cell(self):
        calls = [FEWEST, move(0, 0), want(0, 0), free(0)]
        calls += [car(upright, line, 0, length)
                  for upright in (0, 1) for line in (0, 1) for length in (1, 2, 5)]
        self.assertEqual(ask(begins(1, 1), *calls), [[1]] + ask(*calls))


class AllIsNew(unittest.TestCase):
    BEFORE = [begins(4, 4), car(0, 0, 0, 2), car(1, 3, 1, 2), want(0, 2), want(1, 2), move(0, 2), move(0, 1)]

    def test_behind_begins_no_car_is_there(self):
        self.assertEqual(last(*self.BEFORE, begins(4, 4), move(0, 0)), [-2])
        self.assertEqual(last(*self.BEFORE, begins(4, 4), want(1, 0)), [-2])
        self.assertEqual(last(*self.BEFORE, begins(4, 4), free(0)), [-2])

    def test_behind_begins_cells_are_free_and_cars_are_numbered_from_0(self):
        found = ask(*self.BEFORE, begins(4, 4), car(1, 3, 1, 2), car(0, 0, 0, 4))
        self.assertEqual(found[-2:], [[0], [1]])

    def test_behind_begins_no_move_was_made(self):
        self.assertEqual(last(*self.BEFORE, move(0, 0)), [3, 2, 0, 1])
        self.assertEqual(last(*self.BEFORE, begins(4, 4), car(0, 0, 0, 2), move(0, 2)), [1, 1, 2])

    def test_behind_begins_no_car_is_wanted(self):
        found = ask(*self.BEFORE, begins(4, 4), car(0, 0, 0, 2), FEWEST, free(0), want(0, 1))
        self.assertEqual(found[-3:], [[0], [0], [1]])

    def test_behind_begins_the_size_is_new(self):
        self.assertEqual(last(*self.BEFORE, begins(2, 3), car(0, 2, 0, 2)), [-1])
        self.assertEqual(last(*self.BEFORE, begins(5, 5), car(1, 4, 0, 5)), [0])

    def test_the_same_as_in_a_new_list(self):
        behind = [begins(3, 3), car(0, 1, 0, 2), want(0, 1), FEWEST, move(0, 1), FEWEST, free(0)]
        self.assertEqual(ask(*self.BEFORE, *behind)[len(self.BEFORE):], ask(*behind))

    def test_a_refused_begins_makes_nothing_new(self):
        behind = [FEWEST, move(0, 2), car(0, 3, 0, 3), free(1), want(2, 0), FEWEST]
        as_it_was = ask(*self.BEFORE, *behind)
        for wrong in (begins(0, 3), begins(3, 0), begins(6, 1), begins(1, 6), begins(0, 0)):
            found = ask(*self.BEFORE, wrong, *behind)
            self.assertEqual(found.pop(len(self.BEFORE)), [-1])
            self.assertEqual(found, as_it_was, wrong)


if __name__ == "__main__":
    unittest.main()
