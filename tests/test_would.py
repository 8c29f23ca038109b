"""would: what best would answer behind a result, and what is refused."""

import unittest
from random import Random

from tests.helper import HUGE, ask, begins, best, chances, last, result, some_model, state, test, would

SURE = test([1, 2, 1, 0], [[0, 10], [10, 0]])
FLAKY = test([1, 4, 1, 1], [[0, 10], [10, 0]])


class WouldTest(unittest.TestCase):
    def test_where_the_best_way_stops(self):
        self.assertEqual(ask(begins(2, 1, 2), SURE, would(0, 0), would(0, 1))[2:], [[0, 0, 0], [0, 1, 0]])
        self.assertEqual(ask(begins(4, 9, 2), FLAKY, best(), would(0, 0), would(0, 1))[2:],
                         [[0, 0, 5000000], [0, 0, 2000000], [0, 1, 0]])

    def test_where_the_best_way_tries(self):
        self.assertEqual(ask(begins(4, 1, 2), FLAKY, would(0, 0), would(0, 1))[2:], [[1, 0, 1500000], [0, 1, 0]])
        self.assertEqual(ask(begins(2, 1, 2), SURE, SURE, would(0, 0), would(0, 1), would(1, 0), would(1, 1))[3:],
                         [[1, 1, 1000000], [1, 1, 1000000], [1, 0, 1000000], [1, 0, 1000000]])
        # A pass can leave a doubt too: the weights are 1 to 4 then.
        passing = test([1, 0, 1, 3], [[10, 0], [0, 10]])
        self.assertEqual(ask(begins(4, 1, 2), passing, would(0, 0), would(0, 1))[2:], [[0, 0, 0], [1, 0, 1500000]])

    def test_with_one_try_left_it_stops(self):
        self.assertEqual(ask(begins(4, 1, 1), FLAKY, would(0, 0), would(0, 1))[2:], [[0, 0, 2000000], [0, 1, 0]])
        self.assertEqual(ask(begins(2, 0, 1), SURE, SURE, SURE, would(1, 1))[4:], [[0, 0, 1, 0, 10000000]])

    def test_verdicts_of_all_tests(self):
        fixed = test([1, 1], [[7], [5], [5]])
        self.assertEqual(ask(begins(2, 1, 1), fixed, SURE, fixed, would(1, 0), would(1, 1), would(0, 0))[4:],
                         [[0, 1, 0, 1, 10000000], [0, 1, 1, 1, 10000000], [0, 1, 0, 1, 15000000]])

    def test_what_that_try_costs_counts_no_more(self):
        self.assertEqual(last(begins(2, 1000, 1), SURE, would(0, 0)), [0, 0, 0])

    def test_behind_results(self):
        self.assertEqual(ask(begins(4, 1, 3), FLAKY, result(0, 0), would(0, 0), would(0, 1))[3:],
                         [[0, 0, 588235], [0, 1, 0]])

    def test_any_number_but_0_is_a_pass(self):
        for passed in (1, 2, 3, 256, HUGE):
            self.assertEqual(last(begins(4, 1, 2), FLAKY, would(0, passed)), [0, 1, 0])
            self.assertEqual(last(begins(2, 1, 1), test([1, 2], [[0]]), would(0, passed)), [-6])
            self.assertEqual(last(begins(2, 1, 1), test([1, 0], [[3]]), would(0, passed)), [0, 0, 3000000])


class AsBestTest(unittest.TestCase):
    def test_just_what_best_answers_once_that_result_is_told(self):
        random = Random(9)
        heads = []
        for _ in range(250):
            model = some_model(random, 3, 4)
            for number in range(len(model.tests) + 1):
                for passed in (0, 1):
                    told = last(*model.calls(), would(number, passed))
                    behind, answer = ask(*model.calls(), result(number, passed), best())[-2:]
                    self.assertEqual(told, answer if behind[0] >= 0 else behind, model.calls())
                    heads.append((passed, told[0]))
        # So that no answer of a failure or of a pass is left to a handful of houses.
        for head in ((0, 0), (0, 1), (0, -2), (0, -3), (0, -6), (1, 0), (1, 1), (1, -2), (1, -3), (1, -6)):
            self.assertGreater(heads.count(head), 20, head)

    def test_by_the_words(self):
        random = Random(10)
        for _ in range(150):
            model = some_model(random, 2, 3)
            asked = [(number, passed) for number in range(3) for passed in (0, 1)]
            wanted = [model.would(number, passed) for number, passed in asked]
            self.assertEqual(ask(*model.calls(), *[would(number, passed) for number, passed in asked])[-6:], wanted,
                             model.calls())


class RefusedTest(unittest.TestCase):
    def test_no_such_test(self):
        self.assertEqual(last(would(0, 0)), [-2])
        self.assertEqual(last(begins(4, 1, 4), would(0, 1)), [-2])
        for number in (1, 2, 3, HUGE):
            self.assertEqual(last(begins(4, 1, 4), FLAKY, would(number, 0)), [-2])

    def test_no_tries_left(self):
        for passed in (0, 1, 2):
            self.assertEqual(last(begins(4, 1, 0), FLAKY, would(0, passed)), [-3])
            self.assertEqual(last(begins(4, 1, 1), FLAKY, result(0, 0), would(0, passed)), [-3])

    def test_what_can_not_be(self):
        never = test([1, 0, 2, 0], [[0, 0]])
        always = test([1, 4, 2, 4], [[0, 0]])
        self.assertEqual(ask(begins(4, 1, 4), never, always, would(0, 0), would(1, 1), would(0, 1), would(1, 0))[3:],
                         [[-6], [-6], [0, 0, 0, 0], [0, 0, 0, 0]])

    def test_kinds_that_lost_their_weight_allow_nothing(self):
        self.assertEqual(ask(begins(2, 1, 4), SURE, would(0, 0), result(0, 1), would(0, 0), would(0, 1))[2:],
                         [[0, 0, 0], [3], [-6], [0, 1, 0]])
        self.assertEqual(ask(begins(2, 1, 4), SURE, would(0, 1), result(0, 0), would(0, 1), would(0, 0))[2:],
                         [[0, 1, 0], [3], [-6], [0, 0, 0]])

    def test_of_several_reasons_the_first_told(self):
        never = test([1, 0], [[0]])
        self.assertEqual(last(begins(4, 1, 0), never, would(1, 0)), [-2])
        self.assertEqual(last(begins(4, 1, 0), never, would(0, 0)), [-3])
        self.assertEqual(last(begins(4, 1, 1), never, would(1, 0)), [-2])
        self.assertEqual(last(begins(4, 1, 1), never, would(0, 0)), [-6])

    def test_all_is_as_it_was(self):
        never = test([1, 0, 1, 0], [[0, 8], [4, 0]])
        rest = [state(), best(), chances(0), chances(1), result(0, 1), state()]
        for tries, wrong, number in ((3, would(2, 0), -2), (1, would(0, 0), -3), (3, would(1, 0), -6)):
            lead = [begins(4, 1, tries), FLAKY, never, result(0, 0)]
            self.assertEqual(ask(*lead, wrong, *rest), [*ask(*lead), [number], *ask(*lead, *rest)[4:]])


if __name__ == "__main__":
    unittest.main()
