"""result: what results make of the weights and of the tries, and what is refused."""

import unittest

from tests.helper import HUGE, ask, begins, best, chances, last, result, test

EITHER = test([1, 3, 1, 1], [[0, 10], [10, 0]])


class ResultTest(unittest.TestCase):
    def test_answers_how_many_tries_are_left(self):
        self.assertEqual(ask(begins(4, 1, 4), EITHER, *[result(0, 0)] * 5), [[0], [1], [3], [2], [1], [0], [-3]])

    def test_a_failure_weighs_by_the_failing_tries(self):
        self.assertEqual(last(begins(4, 1, 4), EITHER, result(0, 0), chances(0)), [2, 750000, 250000])
        self.assertEqual(last(begins(4, 1, 4), EITHER, result(0, 0), result(0, 0), chances(0)), [2, 900000, 100000])

    def test_a_pass_weighs_by_the_others(self):
        self.assertEqual(last(begins(5, 1, 4), EITHER, result(0, 1), chances(0)), [2, 333333, 666666])
        self.assertEqual(last(begins(5, 1, 4), EITHER, result(0, 1), result(0, 1), chances(0)), [2, 200000, 800000])

    def test_failures_and_passes_together(self):
        self.assertEqual(last(begins(5, 1, 4), EITHER, result(0, 0), result(0, 1), chances(0)), [2, 600000, 400000])
        self.assertEqual(last(begins(5, 1, 4), EITHER, result(0, 1), result(0, 0), chances(0)), [2, 600000, 400000])

    def test_any_number_but_0_is_a_pass(self):
        for passed in (1, 2, 3, 256, HUGE):
            self.assertEqual(last(begins(5, 1, 4), EITHER, result(0, passed), chances(0)), [2, 333333, 666666])
            self.assertEqual(last(begins(2, 1, 1), test([1, 2], [[0]]), result(0, passed)), [-6])
            self.assertEqual(last(begins(2, 1, 1), test([1, 0], [[0]]), result(0, passed)), [0])

    def test_one_test_tells_nothing_of_another(self):
        self.assertEqual(ask(begins(4, 1, 4), EITHER, EITHER, EITHER, result(1, 0), chances(0), chances(1), chances(2)),
                         [[0], [1], [2], [3], [3], [2, 500000, 500000], [2, 750000, 250000], [2, 500000, 500000]])

    def test_what_a_try_cost_counts_no_more(self):
        sure = test([1, 2, 1, 0], [[0, 10], [10, 0]])
        self.assertEqual(ask(begins(2, 1, 2), sure, best(), result(0, 1), best()),
                         [[0], [1], [1, 0, 1000000], [1], [0, 1, 0]])

    def test_a_test_told_behind_results(self):
        self.assertEqual(ask(begins(4, 1, 2), EITHER, result(0, 0), EITHER, chances(0), chances(1), result(1, 0)),
                         [[0], [1], [1], [2], [2, 750000, 250000], [2, 500000, 500000], [0]])


class RefusedTest(unittest.TestCase):
    def test_no_such_test(self):
        for number in (1, 2, 3, HUGE):
            self.assertEqual(last(begins(4, 1, 4), EITHER, result(number, 0)), [-2])
        self.assertEqual(last(begins(4, 1, 4), result(0, 0)), [-2])

    def test_no_tries_left(self):
        for passed in (0, 1, 2):
            self.assertEqual(last(begins(4, 1, 0), EITHER, result(0, passed)), [-3])

    def test_what_can_not_be(self):
        never = test([1, 0, 2, 0], [[0, 0]])
        always = test([1, 4, 2, 4], [[0, 0]])
        self.assertEqual(ask(begins(4, 1, 4), never, always, result(0, 0), result(1, 1), result(0, 1), result(1, 0)),
                         [[0], [1], [2], [-6], [-6], [3], [2]])

    def test_kinds_that_lost_their_weight_allow_nothing(self):
        split = test([5, 4, 1, 0], [[0, 9], [9, 0]])
        self.assertEqual(ask(begins(4, 1, 4), split, result(0, 1), chances(0), result(0, 0), result(0, 1)),
                         [[0], [1], [3], [2, 0, 1000000], [-6], [2]])
        self.assertEqual(ask(begins(4, 1, 4), split, result(0, 0), chances(0), result(0, 1), result(0, 0)),
                         [[0], [1], [3], [2, 1000000, 0], [-6], [2]])

    def test_one_kind_that_allows_it_is_enough(self):
        self.assertEqual(last(begins(4, 1, 4), test([100, 0, 1, 1], [[0, 0]]), result(0, 0), chances(0)),
                         [2, 0, 1000000])

    def test_of_several_reasons_the_first_told(self):
        never = test([1, 0], [[0]])
        self.assertEqual(last(begins(4, 1, 0), never, result(1, 0)), [-2])
        self.assertEqual(last(begins(4, 1, 0), never, result(0, 0)), [-3])
        self.assertEqual(last(begins(4, 1, 1), never, result(1, 0)), [-2])
        self.assertEqual(last(begins(4, 1, 1), never, result(0, 0)), [-6])

    def test_all_is_as_it_was_behind_a_refusal(self):
        never = test([1, 0, 1, 0], [[0, 8], [4, 0]])
        lead = [begins(4, 1, 2), EITHER, never, result(0, 0)]
        rest = [chances(0), chances(1), best(), result(0, 1), chances(0)]
        wanted = [[2, 750000, 250000], [2, 500000, 500000], [0, 0, 1, 4500000], [0], [2, 500000, 500000]]
        for wrong, number in ((result(2, 0), -2), (result(1, 0), -6)):
            self.assertEqual(ask(*lead, wrong, *rest), [[0], [1], [2], [1], [number], *wanted])
        self.assertEqual(ask(*lead, *rest, result(1, 1), chances(1), best())[-3:],
                         [[-3], [2, 500000, 500000], [0, 0, 1, 7000000]])


class ChancesTest(unittest.TestCase):
    def test_each_kind_in_order(self):
        self.assertEqual(last(test([1, 0], [[0]]), chances(0)), [1, 1000000])
        self.assertEqual(last(test([1, 0, 2, 1, 3, 2, 4, 0], [[0] * 4]), chances(0)),
                         [4, 100000, 200000, 300000, 400000])

    def test_rounded_down(self):
        self.assertEqual(last(test([1, 0, 2, 1], [[0, 0]]), chances(0)), [2, 333333, 666666])
        self.assertEqual(last(test([100, 0, 100, 1, 100, 1, 1, 1], [[0] * 4]), chances(0)),
                         [4, 332225, 332225, 332225, 3322])

    def test_no_such_test(self):
        self.assertEqual(last(chances(0)), [-2])
        for number in (1, 2, HUGE):
            self.assertEqual(ask(EITHER, test([1, 1], [[0]]), chances(number))[-1], [-2])

    def test_asking_changes_nothing(self):
        self.assertEqual(ask(begins(4, 1, 2), EITHER, chances(0), chances(0), chances(1), result(0, 0), chances(0)),
                         [[0], [1], [2, 500000, 500000], [2, 500000, 500000], [-2], [1], [2, 750000, 250000]])


if __name__ == "__main__":
    unittest.main()
