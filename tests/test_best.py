"""best: by hand, by the document's words with fractions, and against every way on there is."""

import unittest
from math import floor
from random import Random

from tests.helper import Model, MILLION, ask, begins, best, chances, last, result, some_model, some_test, test

SURE = test([1, 2, 1, 0], [[0, 10], [10, 0]])


class ByHandTest(unittest.TestCase):
    def test_no_tests(self):
        self.assertEqual(last(best()), [0, 0])
        for tries in range(5):
            self.assertEqual(last(begins(20, 0, tries), best()), [0, 0])

    def test_stops_without_tries(self):
        self.assertEqual(last(begins(2, 0, 0), SURE, best()), [0, 0, 5000000])
        self.assertEqual(last(begins(2, 0, 0), SURE, SURE, best()), [0, 0, 0, 10000000])
        self.assertEqual(last(begins(2, 0, 0), SURE, SURE, SURE, best()), [0, 0, 0, 0, 15000000])

    def test_tries_where_that_costs_less(self):
        self.assertEqual(last(begins(2, 4, 1), SURE, best()), [1, 0, 4000000])

    def test_stops_where_trying_costs_the_same(self):
        self.assertEqual(last(begins(2, 5, 1), SURE, best()), [0, 0, 5000000])
        self.assertEqual(last(begins(2, 0, 4), test([1, 1], [[3]]), best()), [0, 0, 3000000])

    def test_a_try_that_costs_1000(self):
        most = test([1, 2, 1, 0], [[0, 1000], [1000, 0]])
        self.assertEqual(last(begins(2, 1000, 4), most, best()), [0, 0, 500000000])
        self.assertEqual(last(begins(2, 0, 4), most, best()), [1, 0, 0])

    def test_of_equal_tests_the_first_is_tried(self):
        self.assertEqual(last(begins(2, 1, 1), SURE, SURE, SURE, best()), [1, 0, 11000000])
        self.assertEqual(last(begins(2, 1, 4), SURE, SURE, SURE, best()), [1, 0, 3000000])

    def test_the_test_that_is_worth_more_is_tried(self):
        less = test([1, 2, 1, 0], [[0, 6], [6, 0]])
        self.assertEqual(last(begins(2, 1, 1), less, SURE, best()), [1, 1, 4 * MILLION])
        self.assertEqual(last(begins(2, 1, 1), less, less, SURE, best()), [1, 2, 7 * MILLION])
        # With enough tries for both, a best way can begin with either.
        self.assertEqual(last(begins(2, 1, 2), less, SURE, best()), [1, 0, 2 * MILLION])

    def test_of_equal_verdicts_the_first(self):
        self.assertEqual(last(test([1, 1], [[4], [3], [3], [9]]), best()), [0, 1, 3000000])
        self.assertEqual(last(test([1, 1, 1, 0], [[5, 5], [4, 0], [0, 4], [1, 3]]), best()), [0, 1, 2000000])

    def test_verdicts_stand_in_the_order_of_the_tests(self):
        calls = [test([1, 1], [[0] if place == cheap else [1] for place in range(4)]) for cheap in (3, 0, 2)]
        self.assertEqual(last(*calls, best()), [0, 3, 0, 2, 0])

    def test_a_result_changes_the_verdict(self):
        flaky = test([1, 4, 1, 1], [[0, 10], [10, 0]])
        self.assertEqual(ask(begins(4, 9, 2), flaky, best(), result(0, 0), best(), result(0, 1), best()),
                         [[0], [1], [0, 0, 5000000], [1], [0, 0, 2000000], [0], [0, 1, 0]])

    def test_a_second_try_only_where_the_first_leaves_doubt(self):
        flaky = test([1, 4, 1, 1], [[0, 10], [10, 0]])
        # A pass settles it. A failure, 5 of 8, leaves 4 to 1: a verdict then costs 2. So 1 + 5/8 * 2.
        self.assertEqual(last(begins(4, 1, 1), flaky, best()), [1, 0, 2250000])
        # Behind a failure, another one, 17 of 20, leaves 16 to 1: 1 + 17/20 * 10/17 is 1.5. So 1 + 5/8 * 1.5.
        self.assertEqual(last(begins(4, 1, 2), flaky, best()), [1, 0, 1937500])

    def test_rounded_down_once(self):
        third = test([1, 1, 2, 1], [[1, 0]])
        self.assertEqual(last(third, best()), [0, 0, 333333])
        self.assertEqual(last(third, third, best()), [0, 0, 0, 666666])
        self.assertEqual(last(third, third, third, best()), [0, 0, 0, 0, 1000000])

    def test_results_that_can_not_be_cost_nothing(self):
        never = test([1, 0, 1, 0], [[0, 10], [10, 0]])
        self.assertEqual(last(begins(2, 0, 4), never, best()), [0, 0, 5000000])
        self.assertEqual(last(begins(2, 1, 3), SURE, never, best()), [1, 0, 6000000])
        self.assertEqual(last(begins(2, 1, 3), SURE, result(0, 0), best()), [0, 0, 0])

    def test_asking_changes_nothing(self):
        self.assertEqual(ask(begins(2, 1, 1), SURE, best(), best(), result(0, 0), best(), best(), result(0, 0)),
                         [[0], [1], [1, 0, 1000000], [1, 0, 1000000], [0], [0, 0, 0], [0, 0, 0], [-3]])


class ByTheWordsTest(unittest.TestCase):
    def compare(self, model):
        asked = ask(*model.calls(), best(), *[chances(number) for number in range(len(model.tests))])
        wanted = [model.best()] + [model.chances(number) for number in range(len(model.tests))]
        self.assertEqual(asked[-len(wanted):], wanted, model.calls())
        return wanted[0]

    def test_small_houses(self):
        random = Random(1)
        heads = [self.compare(some_model(random, 2, 2))[0] for _ in range(600)]
        # So that neither stopping nor trying is left to a handful of houses.
        self.assertGreater(heads.count(0), 100)
        self.assertGreater(heads.count(1), 100)

    def test_three_tests(self):
        random = Random(2)
        for _ in range(120):
            self.compare(some_model(random, 3, 2))

    def test_four_tries(self):
        random = Random(3)
        for _ in range(80):
            self.compare(some_model(random, 2, 4, 2, 3))

    def test_three_tests_and_four_tries(self):
        random = Random(4)
        for _ in range(3):
            model = Model(random.randint(2, 20), random.randint(0, 3), 4)
            model.tests = [some_test(random, model.whole, 2, 2, 40) for _ in range(3)]
            self.compare(model)

    def test_no_way_on_at_all_costs_less(self):
        random = Random(5)
        for most_tests, most_tries, rounds in ((1, 3, 30), (2, 1, 60), (2, 2, 12)):
            for _ in range(rounds):
                model = some_model(random, most_tests, most_tries, 2, 2)
                self.assertEqual(last(*model.calls(), best())[-1], floor(model.least_of_all_ways() * MILLION))


if __name__ == "__main__":
    unittest.main()
