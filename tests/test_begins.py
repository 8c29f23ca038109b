"""begins: how a house begins, begins again, and what is refused."""

import unittest

from tests.helper import HUGE, ask, begins, best, chances, last, result, test

SURE = test([1, 2, 1, 0], [[0, 10], [10, 0]])


class BeginsTest(unittest.TestCase):
    def test_answers_0_at_the_edges(self):
        for whole in (2, 3, 19, 20):
            for cost in (0, 1, 1000):
                for tries in (0, 1, 4):
                    self.assertEqual(ask(begins(whole, cost, tries)), [[0]])

    def test_refuses_what_is_out_of_range(self):
        wrong = [(0, 1, 1), (1, 1, 1), (21, 1, 1), (HUGE, 1, 1), (2, 1001, 1), (2, HUGE, 1), (2, 1, 5), (2, 1, HUGE),
                 (1, 1001, 5), (21, 0, 5), (20, 1001, 4)]
        for whole, cost, tries in wrong:
            with self.subTest(whole=whole, cost=cost, tries=tries):
                self.assertEqual(ask(begins(whole, cost, tries)), [[-1]])

    def test_a_house_at_its_beginning(self):
        self.assertEqual(last(best()), [0, 0])
        self.assertEqual(last(chances(0)), [-2])
        self.assertEqual(last(result(0, 0)), [-2])

    def test_the_whole_is_2_and_no_tries_are_left_at_the_beginning(self):
        self.assertEqual(last(test([1, 3], [[0]])), [-1])
        self.assertEqual(last(test([1, 2], [[0]])), [1])
        self.assertEqual(ask(SURE, result(0, 0), best()), [[1], [-3], [0, 0, 5000000]])

    def test_the_whole_tells_how_many_tries_may_fail(self):
        self.assertEqual(last(begins(7, 1, 0), test([1, 7], [[0]])), [1])
        self.assertEqual(last(begins(7, 1, 0), test([1, 8], [[0]])), [-1])

    def test_takes_what_a_try_costs(self):
        for cost in (0, 1, 4):
            self.assertEqual(last(begins(2, cost, 1), SURE, best()), [1, 0, cost * 1000000])
        for cost in (5, 6, 1000):
            self.assertEqual(last(begins(2, cost, 1), SURE, best()), [0, 0, 5000000])

    def test_begins_again_behind_tests_and_results(self):
        lead = [begins(10, 3, 4), SURE, SURE, result(1, 0)]
        self.assertEqual(ask(*lead, begins(2, 1, 1), best(), chances(0), SURE, chances(0), result(0, 1), result(0, 1)),
                         [[0], [1], [2], [3], [0], [0, 0], [-2], [1], [2, 500000, 500000], [0], [-3]])

    def test_three_tests_fit_again_behind_begins(self):
        self.assertEqual(ask(SURE, SURE, SURE, SURE, begins(2, 1, 0), SURE), [[1], [2], [3], [-7], [0], [1]])

    def test_all_is_as_it_was_behind_a_refusal(self):
        for wrong in (begins(1, 0, 0), begins(20, 1001, 0), begins(20, 0, 5)):
            lead = [begins(2, 1, 2), SURE, result(0, 0)]
            rest = [chances(0), best(), test([1, 3], [[0]]), SURE, best(), result(1, 0), result(1, 0)]
            self.assertEqual(ask(*lead, wrong, *rest), ask(*lead)
                             + [[-1], [2, 1000000, 0], [0, 0, 0], [-1], [2], [1, 1, 1000000], [0], [-3]])


if __name__ == "__main__":
    unittest.main()
