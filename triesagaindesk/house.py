"""The house that a line's calls are about: its tests and the tries left for them."""

from triesagaindesk.suspect import Suspect, is_well_formed
from triesagaindesk.ways import Ways

MILLION = 1000000

LEAST_WHOLE = 2
MOST_WHOLE = 20
MOST_TRY_COST = 1000
MOST_TRIES = 4
MOST_SUSPECTS = 3

OUT_OF_RANGE = -1
NO_SUCH_TEST = -2
NO_TRIES_LEFT = -3
CANNOT_BE = -6
TOO_MANY_TESTS = -7


class House:
    """Each call answers a list of numbers; a refusal is one number below 0, and changes nothing."""

    def __init__(self):
        self.whole = 2
        self.try_cost = 1
        self.left = 0
        self.suspects = []

    def begins(self, whole, try_cost, tries):
        """Begins anew, with no tests."""
        if not LEAST_WHOLE <= whole <= MOST_WHOLE or try_cost > MOST_TRY_COST or tries > MOST_TRIES:
            return [OUT_OF_RANGE]
        self.whole = whole
        self.try_cost = try_cost
        self.left = tries
        self.suspects = []
        return [0]

    def test(self, kinds, verdicts):
        """Takes one more test."""
        if len(self.suspects) >= MOST_SUSPECTS:
            return [TOO_MANY_TESTS]
        if not is_well_formed(kinds, verdicts, self.whole):
            return [OUT_OF_RANGE]
        self.suspects.append(Suspect(kinds, verdicts))
        return [len(self.suspects)]

    def result(self, number, passed):
        """Takes the result of one try; passed is 0 where it failed."""
        if number >= len(self.suspects):
            return [NO_SUCH_TEST]
        if self.left == 0:
            return [NO_TRIES_LEFT]
        suspect = self.suspects[number]
        weights = suspect.weights_after(suspect.weights, passed != 0, self.whole)
        if sum(weights) == 0:
            return [CANNOT_BE]
        suspect.weights = weights
        self.left -= 1
        return [self.left]

    def best(self):
        """Tells how the best way begins, and what it costs on the average."""
        ways = Ways(self.whole, self.try_cost, self.suspects)
        weights = tuple([suspect.weights for suspect in self.suspects])
        costs = ways.beginnings(weights, self.left)
        least = min(costs)
        told = least * MILLION // ways.scale(weights, self.left)
        choice = costs.index(least)
        if choice == 0:
            return [0] + [suspect.best_verdict() for suspect in self.suspects] + [told]
        return [1, choice - 1, told]

    def chances(self, number):
        """Tells how likely each kind of a test is now."""
        if number >= len(self.suspects):
            return [NO_SUCH_TEST]
        weights = self.suspects[number].weights
        return [len(weights)] + [weight * MILLION // sum(weights) for weight in weights]
