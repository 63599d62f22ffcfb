"""The interface: how calls and answers are spelled, and that nothing is changed or kept."""

import unittest

from caryard.yard import answers
from tests.asking import (
    FEWEST, HARDEST, PLAN, REACH, STATE, ask, begins, car, free, move, places, want)

CALLS = [begins(3, 4), car(0, 1, 0, 2), car(1, 3, 1, 2), want(0, 2), move(1, 0), FEWEST, move(0, 2), move(0, 1), free(0)]
ONE_LIST = [0, 3, 4, 1, 0, 1, 0, 2, 1, 1, 3, 1, 2, 3, 0, 2, 2, 1, 0, 5, 2, 0, 2, 2, 0, 1, 4, 0]
ANSWERED = [1, 12, 1, 0, 1, 1, 1, 1, 4, 1, 2, 0, 0, 1, -6, 1, -6, 4, 2, 2, 1, 0, 1, 0]

# All eleven calls are in it.
ELEVEN_CALLS = [begins(4, 3), car(0, 1, 0, 2), car(1, 2, 0, 2), want(0, 1), FEWEST, PLAN, REACH, places(1), HARDEST,
                move(1, 2), STATE, free(0), places(2)]
ELEVEN = [0, 4, 3, 1, 0, 1, 0, 2, 1, 1, 2, 0, 2, 3, 0, 1, 5, 6, 7, 8, 1, 9, 2, 1, 2, 10, 4, 0, 8, 2]
ELEVEN_ANSWERED = [
    1, 12, 1, 0, 1, 1, 1, 1, 1, 2, 6, 2, 4, 1, 2, 0, 1, 3, 4, 1, 4, 5, 3, 3, 0, 1, 2, 6, 2, 2, 0, 0, 1, 2,
    4, 1, 2, 0, 2, 17, 1, 2, 4, 3, 6, 0, 1, 2, 1, 2, 2, 2, 0, 2, 2, 0, 1, 1, 0, 1, -2]

LISTS = ((ONE_LIST, ANSWERED), (ELEVEN, ELEVEN_ANSWERED))


class Spelling(unittest.TestCase):
    def test_one_list_in_and_one_list_out(self):
        self.assertEqual([number for call in CALLS for number in call], ONE_LIST)
        self.assertEqual(answers(ONE_LIST), ANSWERED)

    def test_all_eleven_calls(self):
        self.assertEqual([number for call in ELEVEN_CALLS for number in call], ELEVEN)
        self.assertEqual({call[0] for call in ELEVEN_CALLS}, set(range(11)))
        self.assertEqual(answers(ELEVEN), ELEVEN_ANSWERED)

    def test_one_call_alone(self):
        self.assertEqual(answers([5]), [1, 0])
        self.assertEqual(answers([6]), [2, 0, 0])
        self.assertEqual(answers([7]), [3, 1, 1, 1])
        self.assertEqual(answers([8, 0]), [1, -2])
        self.assertEqual(answers([9]), [4, 0, 0, 1, 1])
        self.assertEqual(answers([10]), [7, 0, 2, 1, 1, 0, 0, 0])
        self.assertEqual(answers([0, 5, 5]), [1, 25])
        self.assertEqual(answers([0, 0, 5]), [1, -1])
        self.assertEqual(answers([4, 0]), [1, -2])

    def test_the_list_of_places_is_behind_its_length(self):
        for many in range(1, 6):
            calls = begins(5, 5)
            for row in range(many):
                calls += car(0, row, row % 4, 2)
            found = answers(calls + move(0, 1))
            self.assertEqual(found[2 + 2 * many:], [many + 2, 1, many, 1] + [row % 4 for row in range(1, many)])

    def test_calls_that_hand_over_nothing_stand_anywhere(self):
        for first in (5, 6, 7, 9, 10):
            for then in (5, 6, 7, 9, 10):
                self.assertEqual(answers([first, then]), answers([first]) + answers([then]))
                self.assertEqual(answers([first, 8, 0, then]), answers([first]) + [1, -2] + answers([then]))

    def test_whole_numbers_in_a_list(self):
        for handed, answered in LISTS:
            found = answers(handed)
            self.assertIs(list, found.__class__)
            self.assertTrue(all(number.__class__ is int for number in found))


class NothingChangedOrKept(unittest.TestCase):
    def test_the_list_is_the_same_behind_the_call(self):
        for told, answered in LISTS:
            handed = told[:]
            answers(handed)
            self.assertEqual(handed, told)

    def test_the_list_is_not_changed_for_a_while_either(self):
        class Watched(list):
            def changed(self, *rest, **named):
                raise AssertionError("changed")

            append = extend = insert = pop = remove = reverse = sort = clear = changed
            __setitem__ = __delitem__ = __iadd__ = __imul__ = changed

        for told, answered in LISTS:
            self.assertEqual(answers(Watched(told)), answered)

    def test_twice_the_same(self):
        for told, answered in LISTS:
            handed = told[:]
            first = answers(handed)
            self.assertEqual(answers(handed), first)
            self.assertEqual(answers(told[:]), first)

    def test_what_was_answered_is_not_shared(self):
        for told, answered in LISTS:
            first = answers(told)
            first.clear()
            self.assertEqual(answers(told), answered)

    def test_each_list_is_about_a_new_yard(self):
        shown = [5, 2, 0, 0, 4, 0, 1, 0, 0, 0, 2, 6, 7, 8, 0, 9, 10]
        alone = answers(shown)
        for told, answered in LISTS:
            answers(told)
            self.assertEqual(answers(shown), alone)
        self.assertEqual(alone, [1, 0, 1, -2, 1, -2, 1, -1, 2, 0, 0, 3, 1, 1, 1, 1, -2, 4, 0, 0, 1, 1,
                                 7, 0, 2, 1, 1, 0, 0, 0])


class LongLists(unittest.TestCase):
    def test_80_calls(self):
        to_and_fro = [move(0, 3 if number % 2 == 0 else 0) for number in range(78)]
        found = ask(begins(1, 5), car(0, 0, 0, 2), *to_and_fro)
        self.assertEqual(len(found), 80)
        self.assertEqual(found[2:], [[number + 1, 1, 3 if number % 2 == 0 else 0] for number in range(78)])

    def test_500_numbers(self):
        calls = [begins(5, 5)] + [car(0, 0, 0, 5)] * 79
        calls = [number for call in calls for number in call][:398] + [0, 1, 1] * 34
        self.assertEqual(len(calls), 500)
        self.assertEqual(answers(calls), [1, 25, 1, 0] + [1, -6] * 78 + [1, 1] * 34)

    def test_80_times_begins(self):
        calls = [begins(1 + number % 5, 1 + number // 5 % 5) for number in range(80)]
        self.assertEqual(ask(*calls), [[call[1] * call[2]] for call in calls])


if __name__ == "__main__":
    unittest.main()
