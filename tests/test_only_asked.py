"""fewest, plan, reach, places, hardest and state leave all as it was: behind them all is answered as without them."""

import unittest

from tests.asking import (
    FEWEST, HARDEST, HIGHEST, PLAN, REACH, STATE, ask, begins, car, free, move, places, want)

ASKED = [FEWEST, PLAN, REACH, places(0), places(2), places(HIGHEST), HARDEST, STATE]

# Yards of which some have a plan, some none, some no car; in the last the way is long.
YARDS = [
    [],
    [begins(5, 5)],
    [begins(4, 3), car(0, 1, 0, 2), car(1, 2, 0, 2)],
    [begins(4, 3), car(0, 1, 0, 2), car(1, 2, 0, 2), want(1, 0), want(0, 1)],
    [begins(4, 5), car(0, 1, 0, 2), car(1, 2, 0, 2), car(0, 3, 1, 3), want(1, 0), want(0, 3), move(1, 1)],
    [begins(5, 5), car(0, 1, 0, 3), car(0, 2, 1, 3), car(0, 3, 3, 2), car(1, 3, 0, 2), car(1, 0, 2, 2), want(2, 0)],
]

BEHIND = [STATE, FEWEST, PLAN, move(1, 2), move(0, 1), move(0, 3), STATE, FEWEST, want(0, 1), want(1, 1), PLAN,
          STATE, free(1), HARDEST, free(0), FEWEST, REACH, car(1, 4, 0, 2), want(2, 1), places(0), PLAN, STATE,
          move(2, 1), free(2), HARDEST, STATE]


class OnlyAsked(unittest.TestCase):
    def test_each_once(self):
        for before in YARDS:
            as_it_was = ask(*before, *BEHIND)
            for asked in ASKED:
                found = ask(*before, asked, *BEHIND)
                del found[len(before)]
                self.assertEqual(found, as_it_was, before + [asked])

    def test_each_twice_answers_the_same(self):
        for before in YARDS:
            for asked in ASKED:
                found = ask(*before, asked, asked)
                self.assertEqual(found[-1], found[-2], before + [asked])

    def test_all_one_behind_another(self):
        for before in YARDS:
            for turned in range(len(ASKED)):
                asked = ASKED[turned:] + ASKED[:turned]
                found = ask(*before, *asked, *BEHIND)
                self.assertEqual(found[:len(before)] + found[len(before) + len(asked):], ask(*before, *BEHIND))

    def test_each_between_any_two_calls(self):
        for before in YARDS:
            calls = before + BEHIND
            as_it_was = ask(*calls)
            for asked in ASKED:
                found = ask(*[call for told in calls for call in (asked, told)])
                self.assertEqual(found[1::2], as_it_was, before + [asked])

    def test_each_answers_the_same_whatever_was_asked_ahead(self):
        for before in YARDS:
            alone = [ask(*before, asked)[-1] for asked in ASKED]
            self.assertEqual(ask(*before, *ASKED)[len(before):], alone)
            self.assertEqual(ask(*before, *reversed(ASKED))[len(before):], alone[::-1])


if __name__ == "__main__":
    unittest.main()
