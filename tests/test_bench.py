"""answers: how calls and answers stand in their lists, and that nothing is changed or kept."""

import unittest

from tests.helper import begins, best, chances, line_of, result, test
from triesagaindesk.bench import answers

FLAKY = test([1, 4, 1, 1], [[0, 10], [10, 0]])
LONG = line_of([begins(4, 1, 4), FLAKY, FLAKY, FLAKY] + [best(), result(0, 0), chances(0)] * 4
               + [FLAKY, result(9, 0), begins(1, 0, 0), chances(3)])


class FormTest(unittest.TestCase):
    def test_numbers_as_they_stand(self):
        calls = [0, 3, 4, 1, 2, 0,
                 1, 0, 3, 4, 1, 4, 1, 1, 2, 0, 10, 2, 10, 0,
                 3, 0, 0,
                 2, 2, 0, 0, 0,
                 4, 1, 0, 0,
                 2, 2, 5, 1, 0]
        self.assertEqual(answers(calls), [1, 0, 1, 1, 3, 1, 0, 1937500, 1, 1, 3, 2, 800000, 200000, 1, -2])

    def test_one_call_alone(self):
        self.assertEqual(answers(best()), [2, 0, 0])
        self.assertEqual(answers(begins(2, 0, 0)), [1, 0])
        self.assertEqual(answers(begins(0, 0, 0)), [1, -1])
        self.assertEqual(answers(test([], [])), [1, -1])

    def test_sixty_calls(self):
        self.assertEqual(answers(begins(4, 1, 0) + FLAKY + chances(0) * 58),
                         [1, 0, 1, 1] + [3, 2, 500000, 500000] * 58)

    def test_whole_numbers_in_a_list(self):
        told = answers(list(LONG))
        self.assertIs(type(told), list)
        self.assertEqual({type(number) for number in told}, {int})


class NothingKeptTest(unittest.TestCase):
    def test_what_is_handed_in_is_not_changed(self):
        handed = list(LONG)
        answers(handed)
        self.assertEqual(handed, LONG)

    def test_a_second_time_answers_the_same(self):
        handed = list(LONG)
        first = answers(handed)
        second = answers(handed)
        self.assertEqual(first, second)
        self.assertIsNot(first, second)

    def test_each_line_is_about_a_new_house(self):
        answers(begins(20, 1000, 4) + FLAKY)
        self.assertEqual(answers(chances(0) + best() + test([1, 3], [[0]])), [1, -2, 2, 0, 0, 1, -1])

    def test_changing_an_answer_changes_no_later_one(self):
        first = answers(list(LONG))
        kept = list(first)
        first.clear()
        self.assertEqual(answers(list(LONG)), kept)


if __name__ == "__main__":
    unittest.main()
