"""The house that a line's calls are about: its tests and the tries left for them."""

from triesagaindesk.suspect import Suspect, is_well_formed
from triesagaindesk.ways import Ways

MILLION = 1000000

LEAST_WHOLE = 2
MOST_WHOLE = 20
MOST_TRY_COST = 1000
MOST_TRIES = 4
MOST_SUSPECTS = 3

OUT_OF_RANGE = -1
NO_SUCH_TEST = -2
NO_TRIES_LEFT = -3
CANNOT_BE = -6
TOO_MANY_TESTS = -7


class House:
    """Each call answers a list of numbers; a refusal is one number below 0, and changes nothing."""

    def __init__(self):
        self.whole = 2
        self.try_cost = 1
        self.left = 0
        self.suspects = []

    def begins(self, whole, try_cost, tries):
        """Begins anew, with no tests."""
        if not LEAST_WHOLE <= whole <= MOST_WHOLE or try_cost > MOST_TRY_COST or tries > MOST_TRIES:
            return [OUT_OF_RANGE]
        self.whole = whole
        self.try_cost = try_cost
        self.left = tries
        self.suspects = []
        return [0]

    def test(self, kinds, verdicts):
        """Takes one more test."""
        if len(self.suspects) >= MOST_SUSPECTS:
            return [TOO_MANY_TESTS]
        if not is_well_formed(kinds, verdicts, self.whole):
            return [OUT_OF_RANGE]
        self.suspects.append(Suspect(kinds, verdicts))
        return [len(self.suspects)]

    def why_not(self, number, passed):
        """The refusal of such a result, or 0 where it can be taken."""
        if number >= len(self.suspects):
            return NO_SUCH_TEST
        if self.left == 0:
            return NO_TRIES_LEFT
        suspect = self.suspects[number]
        if sum(suspect.weights_after(suspect.weights, passed, self.whole)) == 0:
            return CANNOT_BE
        return 0

    def result(self, number, passed):
        """Takes the result of one try; passed is 0 where it failed."""
        refusal = self.why_not(number, passed != 0)
        if refusal < 0:
            return [refusal]
        self.suspects[number].take_result(passed != 0, self.whole)
        self.left -= 1
        return [self.left]

    def ways_on(self):
        """The ways on with these tests."""
        return Ways(self.whole, self.try_cost, self.suspects)

    def weights_now(self):
        """The weights of all tests, as the ways on take them."""
        return tuple([suspect.weights for suspect in self.suspects])

    def best_from(self, weights, tries):
        """How the best way begins with such weights and so many tries left, and what it costs."""
        ways = self.ways_on()
        costs = ways.beginnings(weights, tries)
        least = min(costs)
        told = least * MILLION // ways.scale(weights, tries)
        choice = costs.index(least)
        if choice == 0:
            verdicts = [suspect.best_verdict(own) for suspect, own in zip(self.suspects, weights)]
            return [0] + verdicts + [told]
        return [1, choice - 1, told]

    def best(self):
        """Tells how the best way begins, and what it costs on the average."""
        return self.best_from(self.weights_now(), self.left)

    def chances(self, number):
        """Tells how likely each kind of a test is now."""
        if number >= len(self.suspects):
            return [NO_SUCH_TEST]
        weights = self.suspects[number].weights
        return [len(weights)] + [weight * MILLION // sum(weights) for weight in weights]

    def fails(self, number):
        """Tells how likely the next try of a test fails."""
        if number >= len(self.suspects):
            return [NO_SUCH_TEST]
        suspect = self.suspects[number]
        failing = sum(suspect.weights_after(suspect.weights, False, self.whole))
        return [failing * MILLION // (sum(suspect.weights) * self.whole)]

    def worth(self, tries):
        """Tells what the best way costs if just so many tries were left."""
        if tries > self.left:
            return [OUT_OF_RANGE]
        ways = self.ways_on()
        weights = self.weights_now()
        return [ways.least(weights, tries) * MILLION // ways.scale(weights, tries)]

    def would(self, number, passed):
        """Tells what best would answer behind such a result; passed is 0 where it failed."""
        refusal = self.why_not(number, passed != 0)
        if refusal < 0:
            return [refusal]
        behind = self.ways_on().behind(number, passed != 0, self.weights_now())
        return self.best_from(behind, self.left - 1)

    def state(self):
        """Tells how many tests there are, how many tries are left, and the results of each test."""
        told = [len(self.suspects), self.left]
        for suspect in self.suspects:
            told.extend([suspect.failures, suspect.passes])
        return told
