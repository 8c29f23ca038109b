"""state: how many tests and tries there are, and the results of each test."""

import unittest

from tests.helper import HUGE, ask, begins, best, chances, fails, last, result, state, test, worth, would

EITHER = test([1, 3, 1, 1], [[0, 10], [10, 0]])


class StateTest(unittest.TestCase):
    def test_a_house_at_its_beginning(self):
        self.assertEqual(last(state()), [0, 0])

    def test_every_count_of_tests_and_of_tries(self):
        for tests in range(4):
            for tries in range(5):
                self.assertEqual(last(begins(4, 1, tries), *[EITHER] * tests, state()), [tests, tries] + [0, 0] * tests)

    def test_failures_stand_before_passes(self):
        self.assertEqual(ask(begins(4, 1, 4), EITHER, result(0, 0), state(), result(0, 0), state(),
                             result(0, 1), state(), result(0, 0), state())[3::2],
                         [[1, 3, 1, 0], [1, 2, 2, 0], [1, 1, 2, 1], [1, 0, 3, 1]])
        self.assertEqual(last(begins(4, 1, 4), EITHER, *[result(0, 1)] * 4, state()), [1, 0, 0, 4])

    def test_results_of_several_tests(self):
        lead = [begins(4, 1, 4), EITHER, EITHER, EITHER]
        self.assertEqual(last(*lead, result(2, 0), result(0, 1), result(2, 0), result(1, 0), state()),
                         [3, 0, 0, 1, 1, 0, 2, 0])
        self.assertEqual(last(*lead, result(1, 1), result(1, 0), result(0, 0), result(1, 1), state()),
                         [3, 0, 1, 0, 1, 2, 0, 0])
        self.assertEqual(last(*lead[:3], result(0, 0), result(0, 1), result(1, 0), result(1, 1), state()),
                         [2, 0, 1, 1, 1, 1])

    def test_any_number_but_0_is_a_pass(self):
        for passed in (1, 2, 3, 256, HUGE):
            self.assertEqual(last(begins(4, 1, 4), EITHER, result(0, passed), state()), [1, 3, 0, 1])

    def test_a_test_told_behind_results(self):
        self.assertEqual(last(begins(4, 1, 4), EITHER, result(0, 0), EITHER, state()), [2, 3, 1, 0, 0, 0])

    def test_begins_again_behind_tests_and_results(self):
        lead = [begins(4, 1, 4), EITHER, EITHER, result(1, 0), result(0, 1)]
        self.assertEqual(ask(*lead, state(), begins(5, 2, 3), state(), EITHER, state(), result(0, 1), state())[5:],
                         [[2, 2, 0, 1, 1, 0], [0], [0, 3], [1], [1, 3, 0, 0], [2], [1, 2, 0, 1]])

    def test_refused_calls_are_not_counted(self):
        never = test([1, 0], [[0]])
        lead = [begins(4, 1, 1), EITHER, never, never]
        wrong = [begins(1, 0, 0), begins(4, 1001, 4), begins(4, 1, 5), EITHER, test([], []), result(3, 0), result(1, 0),
                 chances(3), fails(3), worth(2), would(3, 0), would(1, 0)]
        self.assertEqual(ask(*lead, *wrong, state(), result(0, 0), result(0, 0), would(0, 0), state())[4:],
                         [[-1], [-1], [-1], [-7], [-7], [-2], [-6], [-2], [-2], [-1], [-2], [-6],
                          [3, 1, 0, 0, 0, 0, 0, 0], [0], [-3], [-3], [3, 0, 1, 0, 0, 0, 0, 0]])
        self.assertEqual(ask(test([], []), state()), [[-1], [0, 0]])


class NothingChangedTest(unittest.TestCase):
    def test_asking_changes_nothing(self):
        for tests in range(4):
            for results in ([], [result(0, 0)], [result(0, 1), result(0, 0)]):
                lead = [begins(4, 1, 3), *[EITHER] * tests, *results]
                view = [state(), best(), *[chances(number) for number in range(tests)]]
                wanted = ask(*lead, *view)[len(lead):]
                for asked in (fails(0), worth(0), worth(1), would(0, 0), would(0, 1), state(), fails(3), worth(4),
                              would(3, 0)):
                    self.assertEqual(ask(*lead, asked, *view)[len(lead) + 1:], wanted)
                    self.assertEqual(ask(*lead, *view, asked, asked, *view)[-len(view):], wanted)

    def test_asking_twice_answers_the_same(self):
        lead = [begins(4, 1, 3), EITHER, EITHER, result(1, 1)]
        for asked in (fails(1), worth(2), would(1, 0), would(0, 1), state()):
            first, second = ask(*lead, asked, asked)[-2:]
            self.assertEqual(first, second)


if __name__ == "__main__":
    unittest.main()
