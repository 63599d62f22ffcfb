"""Lists of 80 calls with all eleven calls among them, in yards of 5 rows, 5 columns and 5 cars, in time."""

import time
import unittest

from tests.asking import FEWEST, HARDEST, PLAN, REACH, STATE, ask, begins, car, free, move, places, want

# Five cars of length 2 on five lines: no yard has more arrangements.
FIVE_ROWS = [begins(5, 5)] + [car(0, row, 0, 2) for row in range(5)]
FIVE_COLUMNS = [begins(5, 5)] + [car(1, column, 0, 2) for column in range(5)]
CROSSING = [begins(5, 5), car(0, 0, 0, 2), car(0, 1, 0, 2), car(0, 4, 0, 2), car(1, 4, 0, 2), car(1, 3, 2, 2)]
ONE_ROUND = [PLAN, REACH, places(0), HARDEST, FEWEST, STATE]


def rounds(many):
    """Each round moves a car, wants one and frees one, and then asks all that can be asked."""
    calls = []
    for number in range(many):
        calls += [move(number % 5, number % 4), want(number % 5, 3 - number % 4), free((number + 2) % 5)] + ONE_ROUND
    return calls


class InTime(unittest.TestCase):
    def setUp(self):
        self.begun = time.monotonic()

    def tearDown(self):
        self.assertLess(time.monotonic() - self.begun, 20)

    def test_all_eleven_calls_again_and_again(self):
        for before in (FIVE_ROWS, FIVE_COLUMNS, CROSSING):
            calls = before + rounds(8)
            calls += [STATE] * (80 - len(calls))
            self.assertEqual({call[0] for call in calls}, set(range(11)))
            for again in range(10):
                found = ask(*calls)
                self.assertEqual(len(found), 80)
                for number in range(8):
                    plan, reach, stood_at, hardest, fewest = found[len(before) + 9 * number + 3:][:5]
                    self.assertEqual(plan[:1], fewest)
                    self.assertLessEqual(fewest[0], hardest[0])
                    self.assertGreaterEqual(reach[2], reach[0])

    def test_each_many_times_in_one_list(self):
        wants = [want(row, 3) for row in range(5)]
        plan = [number for row in range(5) for number in (row, 3)]
        for asked, answered in ((PLAN, [5, 10] + plan), (REACH, [1024, 1, 1024]), (places(4), [4, 4, 0, 1, 2, 3]),
                                (HARDEST, [5, 5, 0, 0, 0, 0, 0, 1, 243]), (FEWEST, [5])):
            self.assertEqual(ask(*FIVE_ROWS, *wants, *([asked] * 69))[-69:], [answered] * 69)

    def test_each_many_times_with_other_wants_between(self):
        for asked in (PLAN, REACH, places(4), HARDEST, FEWEST):
            calls = FIVE_ROWS[:]
            for number in range(37):
                calls += [want(number % 5, 1 + number % 3), asked]
            self.assertEqual(len(ask(*calls)), 80)

    def test_yards_begun_anew_many_times(self):
        for asked in (PLAN, REACH, places(4), HARDEST, FEWEST):
            calls = (FIVE_ROWS + [want(0, 1), asked]) * 10
            self.assertEqual(len(calls), 80)
            self.assertEqual(ask(*calls), ask(*calls[:8]) * 10)

    def test_where_there_is_no_plan(self):
        before = [begins(5, 5)] + [car(0, row, 0, 2) for row in range(4)] + [car(1, 4, 3, 2), want(4, 0), want(0, 3)]
        for asked in (PLAN, HARDEST, FEWEST):
            self.assertEqual(ask(*before, *([asked] * 72))[-72:], [[-6]] * 72)


if __name__ == "__main__":
    unittest.main()
