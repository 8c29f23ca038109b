"""worth: what the best way costs with fewer tries, and what is refused."""

import unittest
from random import Random

from tests.helper import HUGE, MILLION, Model, ask, begins, best, last, result, some_model, state, test, worth

SURE = test([1, 2, 1, 0], [[0, 10], [10, 0]])
FLAKY = test([1, 4, 1, 1], [[0, 10], [10, 0]])


class WorthTest(unittest.TestCase):
    def test_none_all_and_some_of_the_tries(self):
        self.assertEqual(ask(begins(4, 1, 4), FLAKY, *[worth(tries) for tries in range(5)])[2:],
                         [[5000000], [2250000], [1937500], [1937500], [1937500]])
        self.assertEqual(ask(begins(2, 1, 4), SURE, SURE, SURE, *[worth(tries) for tries in range(5)])[4:],
                         [[15000000], [11000000], [7000000], [3000000], [3000000]])

    def test_tries_that_cost_too_much(self):
        self.assertEqual(ask(begins(2, 5, 2), SURE, worth(0), worth(1), worth(2))[2:], [[5000000]] * 3)
        self.assertEqual(ask(begins(2, 1000, 2), SURE, worth(0), worth(1), worth(2))[2:], [[5000000]] * 3)

    def test_tries_that_cost_nothing(self):
        self.assertEqual(ask(begins(2, 0, 2), SURE, SURE, worth(0), worth(1), worth(2))[3:],
                         [[10000000], [5000000], [0]])

    def test_no_test(self):
        self.assertEqual(last(worth(0)), [0])
        self.assertEqual(ask(begins(20, 0, 4), *[worth(tries) for tries in range(6)]), [[0]] * 6 + [[-1]])

    def test_behind_results(self):
        # Behind a failure the weights are 4 to 1: a verdict costs 2, and with a try 1 + 17/20 * 10/17.
        self.assertEqual(ask(begins(4, 1, 3), FLAKY, result(0, 0), worth(0), worth(1), worth(2), worth(3))[3:],
                         [[2000000], [1500000], [1500000], [-1]])
        self.assertEqual(ask(begins(4, 1, 3), FLAKY, result(0, 1), worth(0), worth(2))[3:], [[0], [0]])

    def test_rounded_down_once(self):
        third = test([1, 1, 2, 1], [[1, 0]])
        self.assertEqual(last(third, worth(0)), [333333])
        self.assertEqual(last(third, third, third, worth(0)), [1000000])

    def test_as_best_in_a_house_with_so_many_tries(self):
        random = Random(6)
        for _ in range(150):
            model = some_model(random, 3, 4, 3, 3)
            model.results = []
            for tries in range(model.tries + 1):
                fewer = Model(model.whole, model.cost, tries)
                fewer.tests = model.tests
                self.assertEqual(last(*model.calls(), worth(tries))[0], last(*fewer.calls(), best())[-1])

    def test_more_tries_never_cost_more(self):
        random = Random(7)
        for _ in range(100):
            model = some_model(random, 3, 4)
            told = [last(*model.calls(), worth(tries))[0] for tries in range(model.tries + 1)]
            self.assertEqual(told, sorted(told, reverse=True))
            self.assertEqual(told[-1], last(*model.calls(), best())[-1])

    def test_by_the_words(self):
        random = Random(8)
        for _ in range(150):
            model = some_model(random, 2, 3)
            asked = [worth(tries) for tries in range(5)]
            wanted = [model.worth(tries) for tries in range(5)]
            self.assertEqual(ask(*model.calls(), *asked)[-5:], wanted, model.calls())


class RefusedTest(unittest.TestCase):
    def test_so_many_are_not_left(self):
        self.assertEqual(last(worth(1)), [-1])
        for left in range(5):
            self.assertEqual(ask(begins(2, 1, left), SURE, worth(left + 1), worth(HUGE))[2:], [[-1], [-1]])
            self.assertNotEqual(last(begins(2, 1, left), SURE, worth(left)), [-1])

    def test_those_that_were_tried_are_not_left(self):
        self.assertEqual(ask(begins(2, 1, 2), SURE, SURE, worth(2), result(0, 0), worth(2), worth(1), result(1, 0),
                             worth(1), worth(0))[3:],
                         [[2 * MILLION], [1], [-1], [MILLION], [0], [-1], [0]])

    def test_all_is_as_it_was(self):
        lead = [begins(4, 1, 3), FLAKY, FLAKY, result(1, 0)]
        rest = [state(), best(), worth(2), worth(1), result(1, 1)]
        for wrong in (worth(3), worth(HUGE)):
            self.assertEqual(ask(*lead, wrong, *rest), [*ask(*lead), [-1], *ask(*lead, *rest)[4:]])


if __name__ == "__main__":
    unittest.main()
