"""fails: the chance that a test's next try fails, and what is refused."""

import unittest

from tests.helper import HUGE, ask, begins, best, fails, last, result, state, test

EITHER = test([1, 3, 1, 1], [[0, 10], [10, 0]])


class FailsTest(unittest.TestCase):
    def test_before_results(self):
        self.assertEqual(last(begins(4, 1, 4), EITHER, fails(0)), [500000])
        self.assertEqual(last(begins(4, 1, 4), test([3, 3, 1, 1], [[0, 0]]), fails(0)), [625000])
        self.assertEqual(last(begins(20, 1, 4), test([7, 13], [[0]]), fails(0)), [650000])

    def test_behind_results(self):
        # The weights are 3 and 1 behind a failure, 1 and 3 behind a pass, 3 and 3 behind both.
        self.assertEqual(last(begins(4, 1, 4), EITHER, result(0, 0), fails(0)), [625000])
        self.assertEqual(last(begins(4, 1, 4), EITHER, result(0, 1), fails(0)), [375000])
        self.assertEqual(last(begins(4, 1, 4), EITHER, result(0, 1), result(0, 0), fails(0)), [500000])
        self.assertEqual(last(begins(4, 1, 4), EITHER, result(0, 0), result(0, 0), fails(0)), [700000])

    def test_none_or_all_tries_fail(self):
        for whole in (2, 7, 20):
            self.assertEqual(last(begins(whole, 1, 4), test([1, 0, 2, 0], [[0, 0]]), fails(0)), [0])
            self.assertEqual(last(begins(whole, 1, 4), test([1, whole, 2, whole], [[0, 0]]), fails(0)), [1000000])

    def test_a_result_that_settles_it(self):
        sure = test([1, 4, 3, 0], [[0, 9], [9, 0]])
        self.assertEqual(ask(begins(4, 1, 4), sure, fails(0), result(0, 0), fails(0)),
                         [[0], [1], [250000], [3], [1000000]])
        self.assertEqual(ask(begins(4, 1, 4), sure, fails(0), result(0, 1), fails(0)), [[0], [1], [250000], [3], [0]])

    def test_rounded_down_once(self):
        self.assertEqual(last(begins(3, 1, 1), test([1, 1], [[0]]), fails(0)), [333333])
        self.assertEqual(last(begins(3, 1, 1), test([1, 2], [[0]]), fails(0)), [666666])
        self.assertEqual(last(begins(2, 1, 1), test([1, 1, 2, 1], [[0, 0]]), fails(0)), [500000])
        self.assertEqual(last(begins(20, 1, 1), test([1, 1] + [100, 0] * 3, [[0] * 4]), fails(0)), [166])

    def test_no_tries_need_be_left(self):
        self.assertEqual(ask(begins(4, 1, 1), EITHER, result(0, 0), fails(0)), [[0], [1], [0], [625000]])
        self.assertEqual(ask(test([1, 1], [[0]]), fails(0)), [[1], [500000]])

    def test_of_each_test_by_itself(self):
        others = [test([1, 1], [[0]]), test([1, 4], [[0]])]
        self.assertEqual(ask(begins(4, 1, 4), EITHER, *others, result(0, 0), fails(0), fails(1), fails(2))[-3:],
                         [[625000], [250000], [1000000]])


class RefusedTest(unittest.TestCase):
    def test_no_such_test(self):
        self.assertEqual(last(fails(0)), [-2])
        self.assertEqual(last(begins(4, 1, 4), fails(0)), [-2])
        for number in (2, 3, HUGE):
            self.assertEqual(last(begins(4, 1, 4), EITHER, EITHER, fails(number)), [-2])
        self.assertEqual(last(begins(4, 1, 4), EITHER, begins(4, 1, 4), fails(0)), [-2])

    def test_all_is_as_it_was(self):
        lead = [begins(4, 1, 3), EITHER, EITHER, result(1, 0)]
        rest = [state(), best(), fails(0), fails(1), result(1, 1)]
        self.assertEqual(ask(*lead, fails(2), *rest), [*ask(*lead), [-2], *ask(*lead, *rest)[4:]])


if __name__ == "__main__":
    unittest.main()
