"""Writes lines of calls, reads their answers, and works the best way out anew, for the tests."""

from fractions import Fraction
from itertools import product
from math import floor

from triesagaindesk.bench import answers

MILLION = 1000000
HUGE = 4294967295


def begins(whole, cost, tries):
    return [0, 3, whole, cost, tries, 0]


def test(kinds, verdicts):
    line = [1, 0, 1 + len(verdicts), len(kinds), *kinds]
    for costs in verdicts:
        line += [len(costs), *costs]
    return line


def result(test, passed):
    return [2, 2, test, passed, 0]


def best():
    return [3, 0, 0]


def chances(test):
    return [4, 1, test, 0]


def fails(test):
    return [5, 1, test, 0]


def worth(tries):
    return [6, 1, tries, 0]


def would(test, passed):
    return [7, 2, test, passed, 0]


def state():
    return [8, 0, 0]


def line_of(calls):
    return [number for call in calls for number in call]


def split(flat):
    """The answers of a line, one list for each call."""
    parts = []
    place = 0
    while place < len(flat):
        length = flat[place]
        parts.append(flat[place + 1:place + 1 + length])
        place += 1 + length
    assert place == len(flat), flat
    return parts


def ask(*calls):
    """The answers to these calls about one house, one list for each."""
    parts = split(answers(line_of(calls)))
    assert len(parts) == len(calls), (calls, parts)
    return parts


def last(*calls):
    """The answer to the last of these calls."""
    return ask(*calls)[-1]


class Model:
    """A house worked out from the document's words, with fractions and over all kinds of all tests at once."""

    def __init__(self, whole=2, cost=1, tries=0):
        self.whole = whole
        self.cost = cost
        self.tries = tries
        self.tests = []
        self.results = []
        self.known = {}

    def belief(self, results):
        """The chance of each choice of kinds, one for each test; None if the results can't be."""
        weights = {}
        for kinds in product(*[range(len(pairs)) for pairs, _ in self.tests]):
            weight = 1
            for number, kind in enumerate(kinds):
                weight *= self.tests[number][0][kind][0]
            for number, passed in results:
                failing = self.tests[number][0][kinds[number]][1]
                weight *= self.whole - failing if passed else failing
            weights[kinds] = weight
        total = sum(weights.values())
        if total == 0:
            return None
        return {kinds: Fraction(weight, total) for kinds, weight in weights.items() if weight}

    def stop(self, belief):
        """The first best verdict of each test, and what they cost together."""
        given = []
        total = Fraction(0)
        for number, (_, verdicts) in enumerate(self.tests):
            means = [sum(chance * costs[kinds[number]] for kinds, chance in belief.items()) for costs in verdicts]
            given.append(means.index(min(means)))
            total += min(means)
        return given, total

    def fail_chance(self, belief, number):
        pairs = self.tests[number][0]
        return sum(chance * Fraction(pairs[kinds[number]][1], self.whole) for kinds, chance in belief.items())

    def attempt(self, number, results, tries):
        """What it costs to try this test, then to go on as well as can be."""
        fails = self.fail_chance(self.belief(results), number)
        total = Fraction(self.cost)
        for chance, passed in ((fails, 0), (1 - fails, 1)):
            if chance:
                total += chance * self.value(results + [(number, passed)], tries - 1)
        return total

    def value(self, results, tries):
        # A product of weights is the same in any order, and tests only ever come in behind the others.
        place = (len(self.tests), tuple(sorted(results)), tries)
        if place not in self.known:
            costs = [self.stop(self.belief(results))[1]]
            if tries:
                costs += [self.attempt(number, results, tries) for number in range(len(self.tests))]
            self.known[place] = min(costs)
        return self.known[place]

    def best_from(self, results, tries):
        given, stop = self.stop(self.belief(results))
        tried = []
        if tries:
            tried = [self.attempt(number, results, tries) for number in range(len(self.tests))]
        least = min([stop] + tried)
        if stop == least:
            return [0, *given, floor(least * MILLION)]
        return [1, tried.index(least), floor(least * MILLION)]

    def best(self):
        return self.best_from(self.results, self.tries)

    def chances(self, number):
        shares = [Fraction(0)] * len(self.tests[number][0])
        for kinds, chance in self.belief(self.results).items():
            shares[kinds[number]] += chance
        return [len(shares)] + [floor(share * MILLION) for share in shares]

    def refusal(self, number, passed):
        """Why such a result is refused, or None."""
        if number not in range(len(self.tests)):
            return [-2]
        if not self.tries:
            return [-3]
        if self.belief(self.results + [(number, bool(passed))]) is None:
            return [-6]
        return None

    def result(self, number, passed):
        refused = self.refusal(number, passed)
        if refused is None:
            self.results = self.results + [(number, bool(passed))]
            self.tries -= 1
        return refused or [self.tries]

    def fails(self, number):
        return [floor(self.fail_chance(self.belief(self.results), number) * MILLION)]

    def worth(self, tries):
        return [floor(self.value(self.results, tries) * MILLION)] if tries <= self.tries else [-1]

    def would(self, number, passed):
        further = self.results + [(number, bool(passed))]
        return self.refusal(number, passed) or self.best_from(further, self.tries - 1)

    def state(self):
        told = [len(self.tests), self.tries]
        for number in range(len(self.tests)):
            told += [self.results.count((number, False)), self.results.count((number, True))]
        return told

    def whole_ways(self, tries):
        """Every way on, told by what it costs for each choice of kinds."""
        choices = list(product(*[range(len(pairs)) for pairs, _ in self.tests]))
        ways = set()
        for given in product(*[verdicts for _, verdicts in self.tests]):
            ways.add(tuple(Fraction(sum(costs[kind] for costs, kind in zip(given, kinds))) for kinds in choices))
        if not tries:
            return ways
        further = self.whole_ways(tries - 1)
        for number, (pairs, _) in enumerate(self.tests):
            shares = [Fraction(pairs[kinds[number]][1], self.whole) for kinds in choices]
            for failed, passed in product(further, further):
                ways.add(tuple(self.cost + share * if_failed + (1 - share) * if_passed
                               for share, if_failed, if_passed in zip(shares, failed, passed)))
        return ways

    def least_of_all_ways(self):
        """The least cost among all ways, each followed from its beginning to its end."""
        choices = list(product(*[range(len(pairs)) for pairs, _ in self.tests]))
        belief = self.belief(self.results)
        return min(sum(belief.get(kinds, 0) * cost for kinds, cost in zip(choices, way))
                   for way in self.whole_ways(self.tries))

    def calls(self):
        """The calls that lead to this house."""
        calls = [begins(self.whole, self.cost, self.tries + len(self.results))]
        calls += [test([number for pair in pairs for number in pair], verdicts) for pairs, verdicts in self.tests]
        return calls + [result(number, passed) for number, passed in self.results]


def some_test(random, whole, most_kinds, most_verdicts, most_cost):
    kinds = random.choice((random.randint(1, most_kinds), most_kinds))
    most_weight = random.choice((1, 3, 100))
    pairs = []
    for _ in range(kinds):
        failing = random.choice((0, whole, whole // 2, random.randint(0, whole)))
        pairs.append((random.randint(1, most_weight), failing))
    verdicts = []
    for _ in range(random.choice((random.randint(1, most_verdicts), most_verdicts))):
        costs = [random.randint(0, most_cost) for _ in range(kinds)]
        # A verdict that is right for one kind makes a try worth something.
        costs[len(verdicts) % kinds] = 0
        verdicts.append(costs)
    return pairs, verdicts


def some_model(random, most_tests, most_tries, most_kinds=4, most_verdicts=4):
    model = Model(random.choice((2, 3, 4, 10, 20, random.randint(2, 20))), random.choice((0, 1, 1, 2, 7, 1000)),
                  random.choice((random.randint(0, most_tries), most_tries)))
    most_cost = random.choice((1, 4, 20, 100, 1000, 1000))
    for _ in range(random.choice((random.randint(0, most_tests), most_tests))):
        if model.tests and random.random() < 0.3:
            model.tests.append(random.choice(model.tests))
        else:
            model.tests.append(some_test(random, model.whole, most_kinds, most_verdicts, most_cost))
    if model.tests:
        add_results(random, model)
    return model


def add_results(random, model):
    for _ in range(random.randint(0, 4 - model.tries)):
        further = model.results + [(random.randrange(len(model.tests)), random.randint(0, 1))]
        if model.belief(further) is not None:
            model.results = further
