"""test: which tests are taken, and which are refused."""

import unittest

from tests.helper import HUGE, ask, begins, best, chances, last, test

PLAIN = test([1, 1], [[5]])


class TakenTest(unittest.TestCase):
    def test_answers_how_many_there_are(self):
        self.assertEqual(ask(PLAIN, PLAIN, PLAIN), [[1], [2], [3]])

    def test_every_count_of_kinds_and_verdicts(self):
        for kinds in (1, 2, 3, 4):
            for verdicts in (1, 2, 3, 4):
                self.assertEqual(last(test([1, 1] * kinds, [[7] * kinds] * verdicts), best()), [0, 0, 7000000])

    def test_the_edges_of_the_ranges(self):
        self.assertEqual(ask(begins(20, 0, 0), test([1, 0, 100, 20], [[0, 1000], [1000, 0]]), chances(0), best()),
                         [[0], [1], [2, 9900, 990099], [0, 1, 9900990]])

    def test_verdicts_are_told_kind_by_kind(self):
        self.assertEqual(last(test([1, 0, 3, 2], [[8, 0], [0, 8]]), best()), [0, 0, 2000000])
        self.assertEqual(last(test([3, 0, 1, 2], [[8, 0], [0, 8]]), best()), [0, 1, 2000000])


class RefusedTest(unittest.TestCase):
    def refused(self, kinds, verdicts):
        with self.subTest(kinds=kinds, verdicts=verdicts):
            self.assertEqual(ask(begins(5, 1, 1), test(kinds, verdicts)), [[0], [-1]])

    def test_kinds_that_are_not_1_to_4_pairs(self):
        self.refused([], [[]])
        self.refused([], [[1]])
        self.refused([1], [[1]])
        self.refused([1], [[]])
        self.refused([1, 1, 1], [[1]])
        self.refused([1, 1, 1], [[1, 1]])
        self.refused([1, 1] * 4 + [1], [[1] * 4])
        self.refused([1, 1] * 4 + [1], [[1] * 5])
        self.refused([1, 1] * 5, [[1] * 5])
        self.refused([1, 1] * 6, [[1] * 6])

    def test_weights_out_of_range(self):
        for weight in (0, 101, HUGE):
            self.refused([weight, 1], [[1]])
            self.refused([1, 1, weight, 1], [[1, 1]])

    def test_failing_tries_out_of_range(self):
        for failing in (6, HUGE):
            self.refused([1, failing], [[1]])
            self.refused([1, 1, 1, failing], [[1, 1]])

    def test_verdicts_that_are_not_1_to_4(self):
        self.refused([1, 1], [])
        self.refused([1, 1], [[1]] * 5)
        self.refused([1, 1], [[1]] * 6)

    def test_costs_that_are_not_one_for_each_kind(self):
        self.refused([1, 1], [[]])
        self.refused([1, 1], [[1, 1]])
        self.refused([1, 1, 1, 1], [[1]])
        self.refused([1, 1, 1, 1], [[1, 1], [1]])
        self.refused([1, 1, 1, 1], [[1, 1], [1, 1, 1]])
        self.refused([1, 1, 1, 1], [[], [1, 1]])
        self.refused([1, 1, 1, 1], [[1] * 4])

    def test_costs_out_of_range(self):
        for cost in (1001, HUGE):
            self.refused([1, 1], [[cost]])
            self.refused([1, 1, 1, 1], [[1, 1], [1, cost]])

    def test_a_fourth_is_refused_before_its_form(self):
        for fourth in (PLAIN, test([], []), test([0, 9], [[1001]]), test([1], [[1, 2]])):
            self.assertEqual(ask(PLAIN, PLAIN, PLAIN, fourth), [[1], [2], [3], [-7]])

    def test_all_is_as_it_was_behind_a_refusal(self):
        wrong = test([1, 1, 0, 1], [[1, 1]])
        self.assertEqual(ask(PLAIN, wrong, chances(1), best(), PLAIN, wrong, PLAIN, wrong, best(), chances(2)),
                         [[1], [-1], [-2], [0, 0, 5000000], [2], [-1], [3], [-7], [0, 0, 0, 0, 15000000],
                          [1, 1000000]])

    def test_a_refused_test_is_read_to_its_end(self):
        wrong = test([3, 0, 0] * 4, [[0, 3, 0]] * 6)
        self.assertEqual(ask(wrong, best(), test([], []), PLAIN), [[-1], [0, 0], [-1], [1]])


if __name__ == "__main__":
    unittest.main()
