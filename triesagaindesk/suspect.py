"""A test that failed: its kinds, its verdicts, and what results make of its weights."""

MOST_KINDS = 4
MOST_VERDICTS = 4
MOST_WEIGHT = 100
MOST_VERDICT_COST = 1000


def kinds_fit(kinds, whole):
    """Whether these are 1 to 4 pairs of a weight and how many tries of the whole fail."""
    if len(kinds) % 2 != 0 or not 1 <= len(kinds) // 2 <= MOST_KINDS:
        return False
    weights_fit = all([1 <= weight <= MOST_WEIGHT for weight in kinds[0::2]])
    return weights_fit and all([0 <= failing <= whole for failing in kinds[1::2]])


def verdict_fits(costs, kind_count):
    """Whether a verdict has one cost for each kind, all in their range."""
    return len(costs) == kind_count and all([0 <= cost <= MOST_VERDICT_COST for cost in costs])


def is_well_formed(kinds, verdicts, whole):
    """Whether a test may be told so."""
    if not kinds_fit(kinds, whole) or not 1 <= len(verdicts) <= MOST_VERDICTS:
        return False
    return all([verdict_fits(costs, len(kinds) // 2) for costs in verdicts])


class Suspect:
    """One test, with its weights now and how often it has failed and passed."""

    def __init__(self, kinds, verdicts):
        self.weights = tuple(kinds[0::2])
        self.failing = tuple(kinds[1::2])
        self.verdicts = [tuple(costs) for costs in verdicts]
        self.failures = 0
        self.passes = 0

    def take_result(self, passed, whole):
        """Takes the result of one try."""
        self.weights = self.weights_after(self.weights, passed, whole)
        if passed:
            self.passes += 1
        else:
            self.failures += 1

    def weights_after(self, weights, passed, whole):
        """What such weights are behind one more result."""
        if passed:
            return tuple([weight * (whole - failing) for weight, failing in zip(weights, self.failing)])
        return tuple([weight * failing for weight, failing in zip(weights, self.failing)])

    def verdict_costs(self, weights):
        """Of each verdict its cost on the average, times the sum of the weights."""
        return [sum([weight * cost for weight, cost in zip(weights, costs)]) for costs in self.verdicts]

    def best_verdict(self, weights):
        """The first verdict that costs least on the average with such weights."""
        costs = self.verdict_costs(weights)
        return costs.index(min(costs))
