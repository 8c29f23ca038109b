"""Lines of all nine calls, each answered beside the program by the document's words."""

import unittest
from random import Random

from tests.helper import (HUGE, Model, ask, begins, best, chances, fails, result, some_test, state, test, worth,
                          would)

WRONG_TESTS = (([], []), ([1], [[1]]), ([1, 1], []), ([0, 1], [[1]]), ([101, 1], [[1]]), ([1, 21], [[1]]),
               ([1, 1], [[1001]]), ([1, 1], [[1, 1]]), ([1, 1] * 5, [[1] * 5]), ([1, 1], [[1]] * 5))
ASKS = ("best", "worth", "would")
SORTS = ("begins", "test", "result", "chances", "fails", "state") + ASKS


class Line:
    """Calls, drawn one behind another, with what the document's words make of each."""

    def __init__(self, random):
        self.random = random
        self.model = Model()
        self.calls = []
        self.wanted = []
        self.seen = []
        self.asks = 0

    def note(self, sort, call, answer):
        self.seen.append((sort, min(answer[0], 0)))
        self.calls.append(call)
        self.wanted.append(answer)

    def some_number(self):
        return self.random.choice((0, 0, 0, 1, 1, 2, 3, HUGE))

    def some_passed(self):
        return self.random.choice((0, 0, 0, 1, 1, 2, HUGE))

    def draw(self):
        """Draws one more call."""
        sort = self.random.choice(SORTS + ("test", "result", "result"))
        if sort == "begins" and self.random.random() < 0.5:
            sort = "test"
        if sort in ASKS and self.asks == 10:
            sort = "state"
        self.asks += sort in ASKS
        getattr(self, "draw_" + sort)()

    def draw_begins(self):
        whole, cost, tries = self.random.choice((2, 4, 20)), self.random.choice((0, 1, 3)), self.random.randint(0, 4)
        if self.random.random() < 0.2:
            whole, cost, tries = self.random.choice(((1, 0, 0), (21, 0, 0), (2, 1001, 0), (2, 0, 5)))
            self.note("begins", begins(whole, cost, tries), [-1])
            return
        self.model = Model(whole, cost, tries)
        self.note("begins", begins(whole, cost, tries), [0])

    def draw_test(self):
        wrong = self.random.random() < 0.15
        pairs, verdicts = some_test(self.random, self.model.whole, 2, 3, self.random.choice((10, 1000)))
        call = test(*self.random.choice(WRONG_TESTS)) if wrong else test([x for pair in pairs for x in pair], verdicts)
        if len(self.model.tests) == 3:
            self.note("test", call, [-7])
        elif wrong:
            self.note("test", call, [-1])
        else:
            self.model.tests.append((pairs, verdicts))
            self.note("test", call, [len(self.model.tests)])

    def draw_result(self):
        number, passed = self.some_number(), self.some_passed()
        self.note("result", result(number, passed), self.model.result(number, passed))

    def draw_best(self):
        self.note("best", best(), self.model.best())

    def draw_chances(self):
        number = self.some_number()
        known = number < len(self.model.tests)
        self.note("chances", chances(number), self.model.chances(number) if known else [-2])

    def draw_fails(self):
        number = self.some_number()
        known = number < len(self.model.tests)
        self.note("fails", fails(number), self.model.fails(number) if known else [-2])

    def draw_worth(self):
        tries = self.random.choice((0, 1, 2, 3, 4, 5, self.model.tries, self.model.tries, HUGE))
        self.note("worth", worth(tries), self.model.worth(tries))

    def draw_would(self):
        number, passed = self.some_number(), self.some_passed()
        self.note("would", would(number, passed), self.model.would(number, passed))

    def draw_state(self):
        self.note("state", state(), self.model.state())


class LinesTest(unittest.TestCase):
    def test_all_nine_calls_in_any_order(self):
        random = Random(11)
        seen = []
        houses = set()
        for _ in range(500):
            line = Line(random)
            if random.random() < 0.9:
                line.draw_begins()
            for _ in range(random.choice((1, 8, 20, 40, 59))):
                line.draw()
                houses.add((len(line.model.tests), line.model.tries))
            self.assertEqual(ask(*line.calls), line.wanted, line.calls)
            seen += line.seen
        self.assertEqual(houses, {(tests, tries) for tests in range(4) for tries in range(5)})
        every = {(sort, 0) for sort in SORTS}
        every |= {("begins", -1), ("test", -7), ("test", -1), ("chances", -2), ("fails", -2), ("worth", -1)}
        every |= {(sort, refusal) for sort in ("result", "would") for refusal in (-2, -3, -6)}
        self.assertEqual(set(seen), every)
        # So that no answer and no refusal is left to a handful of calls.
        for sort in every:
            self.assertGreater(seen.count(sort), 15, sort)


if __name__ == "__main__":
    unittest.main()
