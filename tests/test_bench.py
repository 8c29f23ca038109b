"""answers: how calls and answers stand in their lists, and that nothing is changed or kept."""

import unittest

from tests.helper import HUGE, begins, best, chances, fails, line_of, result, state, test, worth, would
from triesagaindesk.bench import answers

FLAKY = test([1, 4, 1, 1], [[0, 10], [10, 0]])
LONG = line_of([begins(4, 1, 4), FLAKY, FLAKY, FLAKY]
               + [best(), would(1, 1), fails(0), result(0, 0), chances(0), state()] * 4
               + [worth(0), worth(1), FLAKY, result(9, 0), begins(1, 0, 0), chances(3), fails(3), would(0, 0), state()])


def refuse(*given):
    raise AssertionError("the list that is handed in was to be changed")


class Guarded(list):
    """A list that takes no change, not for a while either."""

    append = extend = insert = pop = remove = clear = sort = reverse = refuse
    __setitem__ = __delitem__ = __iadd__ = __imul__ = refuse


class FormTest(unittest.TestCase):
    def test_numbers_as_they_stand(self):
        calls = [0, 3, 4, 1, 2, 0,
                 1, 0, 3, 4, 1, 4, 1, 1, 2, 0, 10, 2, 10, 0,
                 3, 0, 0,
                 2, 2, 0, 0, 0,
                 4, 1, 0, 0,
                 2, 2, 5, 1, 0]
        self.assertEqual(answers(calls), [1, 0, 1, 1, 3, 1, 0, 1937500, 1, 1, 3, 2, 800000, 200000, 1, -2])

    def test_all_nine_calls_as_they_stand(self):
        calls = [0, 3, 4, 1, 2, 0,
                 1, 0, 3, 4, 1, 4, 1, 1, 2, 0, 10, 2, 10, 0,
                 5, 1, 0, 0,
                 6, 1, 1, 0,
                 7, 2, 0, 0, 0,
                 7, 2, 0, 7, 0,
                 2, 2, 0, 0, 0,
                 8, 0, 0,
                 3, 0, 0,
                 4, 1, 0, 0,
                 5, 1, 1, 0,
                 6, 1, 2, 0,
                 7, 2, 1, 0, 0,
                 8, 0, 0]
        self.assertEqual(answers(calls), [1, 0, 1, 1, 1, 625000, 1, 2250000, 3, 1, 0, 1500000, 3, 0, 1, 0, 1, 1,
                                          4, 1, 1, 1, 0, 3, 1, 0, 1500000, 3, 2, 800000, 200000, 1, -2, 1, -1, 1, -2,
                                          4, 1, 1, 1, 0])

    def test_one_call_alone(self):
        self.assertEqual(answers(best()), [2, 0, 0])
        self.assertEqual(answers(begins(2, 0, 0)), [1, 0])
        self.assertEqual(answers(begins(0, 0, 0)), [1, -1])
        self.assertEqual(answers(test([], [])), [1, -1])
        self.assertEqual(answers(fails(0)), [1, -2])
        self.assertEqual(answers(worth(0)), [1, 0])
        self.assertEqual(answers(worth(HUGE)), [1, -1])
        self.assertEqual(answers(would(0, 0)), [1, -2])
        self.assertEqual(answers(state()), [2, 0, 0])

    def test_sixty_calls(self):
        self.assertEqual(answers(begins(4, 1, 0) + FLAKY + chances(0) * 58),
                         [1, 0, 1, 1] + [3, 2, 500000, 500000] * 58)

    def test_whole_numbers_in_a_list(self):
        told = answers(list(LONG))
        self.assertIs(type(told), list)
        self.assertEqual({type(number) for number in told}, {int})


class NothingKeptTest(unittest.TestCase):
    def test_what_is_handed_in_is_not_changed(self):
        handed = list(LONG)
        answers(handed)
        self.assertEqual(handed, LONG)

    def test_not_for_a_while_either(self):
        self.assertEqual(answers(Guarded(LONG)), answers(list(LONG)))

    def test_a_second_time_answers_the_same(self):
        handed = list(LONG)
        first = answers(handed)
        second = answers(handed)
        self.assertEqual(first, second)
        self.assertIsNot(first, second)

    def test_each_line_is_about_a_new_house(self):
        answers(begins(20, 1000, 4) + FLAKY)
        self.assertEqual(answers(chances(0) + best() + test([1, 3], [[0]])), [1, -2, 2, 0, 0, 1, -1])
        self.assertEqual(answers(state() + worth(1) + fails(0)), [2, 0, 0, 1, -1, 1, -2])

    def test_changing_an_answer_changes_no_later_one(self):
        first = answers(list(LONG))
        kept = list(first)
        first.clear()
        self.assertEqual(answers(list(LONG)), kept)


if __name__ == "__main__":
    unittest.main()
