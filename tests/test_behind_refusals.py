"""Behind each refusal all is as it was: whatever is asked then is answered as if it hadn't been asked."""

import unittest

from tests.asking import (
    FEWEST, HARDEST, HIGHEST, PLAN, REACH, STATE, ask, begins, car, free, move, places, want)

# Each state: the calls that lead to it, then calls that are refused there and what they answer.
EMPTY = ([], [
    (begins(0, 1), [-1]), (begins(1, 6), [-1]), (begins(HIGHEST, HIGHEST), [-1]),
    (car(0, 0, 0, 2), [-1]), (car(HIGHEST, HIGHEST, HIGHEST, HIGHEST), [-1]),
    (move(0, 0), [-2]), (want(0, 0), [-2]), (free(0), [-2]), (places(0), [-2]), (places(HIGHEST), [-2]),
])
MIDDLE = ([begins(4, 5), car(0, 1, 0, 2), car(1, 3, 1, 3), car(0, 0, 1, 3),
           want(0, 1), want(2, 2), move(2, 2), move(2, 0)], [
    (begins(0, 5), [-1]), (begins(5, 0), [-1]), (begins(6, 6), [-1]), (begins(1, HIGHEST), [-1]),
    (car(2, 2, 0, 2), [-1]), (car(0, 4, 0, 2), [-1]), (car(0, 3, 4, 2), [-1]), (car(1, 0, 0, 5), [-1]),
    (car(0, 2, 2, 2), [-6]), (car(1, 1, 0, 4), [-6]),
    (move(0, 0), [-6]), (move(0, 2), [-6]), (move(0, HIGHEST), [-6]), (move(1, 2), [-6]), (move(3, 0), [-2]),
    (want(0, 4), [-1]), (want(1, 2), [-1]), (want(2, HIGHEST), [-1]), (want(3, 0), [-2]), (want(HIGHEST, 0), [-2]),
    (free(3), [-2]), (free(HIGHEST), [-2]), (places(3), [-2]), (places(HIGHEST), [-2]),
])
FULL = ([begins(5, 5), car(0, 0, 0, 2), car(0, 1, 0, 2), car(0, 2, 0, 2), car(0, 3, 0, 2), car(1, 4, 0, 2),
         want(0, 3), want(4, 0), move(3, 1)], [
    (FEWEST, [-6]), (PLAN, [-6]), (HARDEST, [-6]), (places(5), [-2]), (car(0, 4, 0, 2), [-5]), (car(0, 0, 0, 2), [-5]), (car(0, 5, 0, 2), [-1]),
    (move(0, 3), [-6]), (move(4, 0), [-6]), (move(5, 0), [-2]), (want(5, 4), [-2]), (want(4, 4), [-1]), (free(5), [-2]),
])

# What shows a state: every list of it, then every count, every place, which cells are taken, where the yard ends.
SHOWN = [STATE, HARDEST, REACH, PLAN, want(0, 0), FEWEST, want(0, 3), PLAN, free(0), FEWEST]
SHOWN += [move(number, place) for number in range(5) for place in (0, 3, 1, 2)]
SHOWN += [STATE, free(1), PLAN, free(2), HARDEST]
SHOWN += [car(upright, line, place, 2) for upright in (0, 1) for line in (3, 4) for place in (0, 2)]
SHOWN += [REACH, want(1, 1), want(2, 0), HARDEST, STATE]


class BehindRefusals(unittest.TestCase):
    def test_each_refusal_leaves_all_as_it_was(self):
        for before, refused in (EMPTY, MIDDLE, FULL):
            as_it_was = ask(*before, *SHOWN)
            for call, refusal in refused:
                found = ask(*before, call, *SHOWN)
                self.assertEqual(found.pop(len(before)), refusal, call)
                self.assertEqual(found, as_it_was, call)

    def test_all_refusals_one_behind_another(self):
        for before, refused in (EMPTY, MIDDLE, FULL):
            calls = [call for call, refusal in refused]
            found = ask(*before, *calls, *SHOWN)
            self.assertEqual(found[:len(before)] + found[len(before) + len(calls):], ask(*before, *SHOWN))
            self.assertEqual(found[len(before):len(before) + len(calls)], [refusal for call, refusal in refused])


    def test_the_calls_ahead_of_them_are_not_refused(self):
        for before, refused in (MIDDLE, FULL):
            self.assertTrue(all(answer[0] >= 0 for answer in ask(*before)))


if __name__ == "__main__":
    unittest.main()
