"""The call state."""

import unittest

from tests.asking import FAR_OUT, HIGHEST, STATE, ask, begins, car, free, last, move, want

THREE = [begins(4, 5), car(0, 1, 0, 2), car(1, 3, 1, 3), car(0, 0, 1, 3)]
FIVE_ROWS = [begins(5, 5)] + [car(0, row, 0, 2) for row in range(5)]


def wanted(answer):
    """The last list of a state: of each wanted car the car, the place."""
    at = 1
    for number in range(3):
        at += 1 + answer[at]
    if len(answer) != at + 1 + answer[at]:
        raise AssertionError(f"misspelled state: {answer!r}")
    return answer[at + 1:]


class Lists(unittest.TestCase):
    def test_one_cell_and_no_car(self):
        self.assertEqual(last(STATE), [0, 2, 1, 1, 0, 0, 0])
        self.assertEqual(last(begins(1, 1), STATE), [0, 2, 1, 1, 0, 0, 0])

    def test_rows_then_columns(self):
        for rows in range(1, 6):
            for columns in range(1, 6):
                self.assertEqual(last(begins(rows, columns), STATE), [0, 2, rows, columns, 0, 0, 0])

    def test_cars_by_their_numbers(self):
        self.assertEqual(last(*THREE[:2], STATE), [0, 2, 4, 5, 3, 0, 1, 2, 1, 0, 0])
        self.assertEqual(last(*THREE, STATE), [0, 2, 4, 5, 9, 0, 1, 2, 1, 3, 3, 0, 0, 3, 3, 0, 1, 1, 0])

    def test_five_cars(self):
        self.assertEqual(last(*FIVE_ROWS, want(4, 3), STATE),
                         [0, 2, 5, 5, 15, 0, 0, 2, 0, 1, 2, 0, 2, 2, 0, 3, 2, 0, 4, 2, 5, 0, 0, 0, 0, 0, 2, 4, 3])

    def test_each_shape(self):
        for upright in (0, 1):
            for line in range(5):
                for length in range(2, 6):
                    for place in range(6 - length):
                        self.assertEqual(last(begins(5, 5), car(upright, line, place, length), STATE),
                                         [0, 2, 5, 5, 3, upright, line, length, 1, place, 0])

    def test_moves_made_and_where_cars_stand_now(self):
        found = ask(*THREE, move(2, 2), STATE, move(0, 1), STATE, move(2, 0), STATE)
        cars = [9, 0, 1, 2, 1, 3, 3, 0, 0, 3]
        self.assertEqual(found[5], [1, 2, 4, 5] + cars + [3, 0, 1, 2, 0])
        self.assertEqual(found[7], [2, 2, 4, 5] + cars + [3, 1, 1, 2, 0])
        self.assertEqual(found[9], [3, 2, 4, 5] + cars + [3, 1, 1, 0, 0])

    def test_all_new_behind_begins(self):
        self.assertEqual(last(*THREE, want(0, 1), move(0, 1), begins(2, 3), STATE), [0, 2, 2, 3, 0, 0, 0])


class ToldLast(unittest.TestCase):
    def check(self, told, expected):
        self.assertEqual(wanted(last(*THREE, *told, STATE)), expected)

    def test_none(self):
        self.check([], [])
        self.check([want(1, 0), free(1)], [])
        self.check([free(0)], [])

    def test_in_another_order_than_their_numbers(self):
        self.check([want(0, 1), want(1, 0), want(2, 2)], [0, 1, 1, 0, 2, 2])
        self.check([want(2, 2), want(1, 0), want(0, 1)], [2, 2, 1, 0, 0, 1])
        self.check([want(1, 0), want(2, 2), want(0, 1)], [1, 0, 2, 2, 0, 1])

    def test_wanted_anew_behind_another(self):
        self.check([want(0, 1), want(1, 0), want(0, 3)], [1, 0, 0, 3])
        self.check([want(0, 1), want(1, 0), want(2, 2), want(1, 1)], [0, 1, 2, 2, 1, 1])

    def test_wanted_anew_at_the_same_place(self):
        self.check([want(0, 1), want(1, 0), want(0, 1)], [1, 0, 0, 1])

    def test_wanted_anew_as_the_last(self):
        self.check([want(0, 1), want(1, 0), want(1, 1)], [0, 1, 1, 1])

    def test_freed_between(self):
        self.check([want(0, 1), want(1, 0), want(2, 2), free(1)], [0, 1, 2, 2])
        self.check([want(0, 1), want(1, 0), free(0), want(0, 1)], [1, 0, 0, 1])
        self.check([want(0, 1), want(1, 0), free(2), free(1)], [0, 1])

    def test_a_refused_want_changes_no_order(self):
        for wrong in (4, 5) + FAR_OUT:
            self.check([want(0, 1), want(1, 0), want(0, wrong)], [0, 1, 1, 0])
        self.check([want(0, 1), want(1, 0), want(3, 0), want(HIGHEST, HIGHEST), free(3)], [0, 1, 1, 0])

    def test_moves_change_no_order(self):
        self.check([want(1, 0), want(0, 1), move(0, 1), move(2, 2), move(2, 0)], [1, 0, 0, 1])

    def test_where_cars_are_already(self):
        self.check([want(2, 1), want(0, 0)], [2, 1, 0, 0])


class BehindRefusals(unittest.TestCase):
    def test_all_as_it_was(self):
        before = THREE + [want(2, 2), want(0, 1), move(0, 1)]
        as_it_was = last(*before, STATE)
        self.assertEqual(as_it_was, [1, 2, 4, 5, 9, 0, 1, 2, 1, 3, 3, 0, 0, 3, 3, 1, 1, 1, 4, 2, 2, 0, 1])
        for refused in (begins(0, 1), begins(6, 6), car(0, 0, 0, 2), car(0, 3, 4, 2), car(2, 3, 0, 2), move(0, 1),
                        move(0, 2), move(3, 0), want(0, 4), want(3, 0), free(3), free(HIGHEST)):
            found = ask(*before, refused, STATE)
            self.assertLess(found[-2][0], 0, refused)
            self.assertEqual(found[-1], as_it_was, refused)


if __name__ == "__main__":
    unittest.main()
