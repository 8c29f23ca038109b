"""Writes lines of calls, reads their answers, and works the best way out anew, for the tests."""

from fractions import Fraction
from itertools import product
from math import floor

from triesagaindesk.bench import answers

MILLION = 1000000


def begins(whole, cost, tries):
    return [0, 3, whole, cost, tries, 0]


def test(kinds, verdicts):
    line = [1, 0, 1 + len(verdicts), len(kinds), *kinds]
    for costs in verdicts:
        line += [len(costs), *costs]
    return line


def result(test, passed):
    return [2, 2, test, passed, 0]


def best():
    return [3, 0, 0]


def chances(test):
    return [4, 1, test, 0]


def line_of(calls):
    return [number for call in calls for number in call]


def split(flat):
    """The answers of a line, one list for each call."""
    parts = []
    place = 0
    while place < len(flat):
        length = flat[place]
        parts.append(flat[place + 1:place + 1 + length])
        place += 1 + length
    assert place == len(flat), flat
    return parts


def ask(*calls):
    """The answers to these calls about one house, one list for each."""
    parts = split(answers(line_of(calls)))
    assert len(parts) == len(calls), (calls, parts)
    return parts


def last(*calls):
    """The answer to the last of these calls."""
    return ask(*calls)[-1]


class Model:
    """A house worked out from the document's words, with fractions and over all kinds of all tests at once."""

    def __init__(self, whole=2, cost=1, tries=0):
        self.whole = whole
        self.cost = cost
        self.tries = tries
        self.tests = []
        self.results = []

    def belief(self, results):
        """The chance of each choice of kinds, one for each test; None if the results can't be."""
        weights = {}
        for kinds in product(*[range(len(pairs)) for pairs, _ in self.tests]):
            weight = 1
            for number, kind in enumerate(kinds):
                weight *= self.tests[number][0][kind][0]
            for number, passed in results:
                failing = self.tests[number][0][kinds[number]][1]
                weight *= self.whole - failing if passed else failing
            weights[kinds] = weight
        total = sum(weights.values())
        if total == 0:
            return None
        return {kinds: Fraction(weight, total) for kinds, weight in weights.items() if weight}

    def stop(self, belief):
        """The first best verdict of each test, and what they cost together."""
        given = []
        total = Fraction(0)
        for number, (_, verdicts) in enumerate(self.tests):
            means = [sum(chance * costs[kinds[number]] for kinds, chance in belief.items()) for costs in verdicts]
            given.append(means.index(min(means)))
            total += min(means)
        return given, total

    def fail_chance(self, belief, number):
        pairs = self.tests[number][0]
        return sum(chance * Fraction(pairs[kinds[number]][1], self.whole) for kinds, chance in belief.items())

    def attempt(self, number, results, tries):
        """What it costs to try this test, then to go on as well as can be."""
        fails = self.fail_chance(self.belief(results), number)
        total = Fraction(self.cost)
        for chance, passed in ((fails, 0), (1 - fails, 1)):
            if chance:
                total += chance * self.value(results + [(number, passed)], tries - 1)
        return total

    def value(self, results, tries):
        costs = [self.stop(self.belief(results))[1]]
        if tries:
            costs += [self.attempt(number, results, tries) for number in range(len(self.tests))]
        return min(costs)

    def best(self):
        given, stop = self.stop(self.belief(self.results))
        tried = []
        if self.tries:
            tried = [self.attempt(number, self.results, self.tries) for number in range(len(self.tests))]
        least = min([stop] + tried)
        if stop == least:
            return [0, *given, floor(least * MILLION)]
        return [1, tried.index(least), floor(least * MILLION)]

    def chances(self, number):
        shares = [Fraction(0)] * len(self.tests[number][0])
        for kinds, chance in self.belief(self.results).items():
            shares[kinds[number]] += chance
        return [len(shares)] + [floor(share * MILLION) for share in shares]

    def whole_ways(self, tries):
        """Every way on, told by what it costs for each choice of kinds."""
        choices = list(product(*[range(len(pairs)) for pairs, _ in self.tests]))
        ways = set()
        for given in product(*[verdicts for _, verdicts in self.tests]):
            ways.add(tuple(Fraction(sum(costs[kind] for costs, kind in zip(given, kinds))) for kinds in choices))
        if not tries:
            return ways
        further = self.whole_ways(tries - 1)
        for number, (pairs, _) in enumerate(self.tests):
            shares = [Fraction(pairs[kinds[number]][1], self.whole) for kinds in choices]
            for failed, passed in product(further, further):
                ways.add(tuple(self.cost + share * if_failed + (1 - share) * if_passed
                               for share, if_failed, if_passed in zip(shares, failed, passed)))
        return ways

    def least_of_all_ways(self):
        """The least cost among all ways, each followed from its beginning to its end."""
        choices = list(product(*[range(len(pairs)) for pairs, _ in self.tests]))
        belief = self.belief(self.results)
        return min(sum(belief.get(kinds, 0) * cost for kinds, cost in zip(choices, way))
                   for way in self.whole_ways(self.tries))

    def calls(self):
        """The calls that lead to this house."""
        calls = [begins(self.whole, self.cost, self.tries + len(self.results))]
        calls += [test([number for pair in pairs for number in pair], verdicts) for pairs, verdicts in self.tests]
        return calls + [result(number, passed) for number, passed in self.results]
