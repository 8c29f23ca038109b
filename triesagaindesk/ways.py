"""What the ways on cost, exact in whole numbers.

A cost on the average is a fraction. Here it always stands times its scale:
the sum of the weights of each test, all multiplied, times the whole once for
each try that is left. With this scale the costs behind a failure and behind a
pass just add up, and a result that can't be counts 0, as all its weights do.
"""


class Ways:
    """The ways on with some tests; weights are a tuple with one tuple for each test."""

    def __init__(self, whole, try_cost, suspects):
        self.whole = whole
        self.try_cost = try_cost
        self.suspects = suspects
        self.known = {}

    def scale(self, weights, tries):
        """What a cost on the average is multiplied by here."""
        product = 1
        for own in weights:
            product *= sum(own)
        for turn in range(tries):
            product *= self.whole
        return product

    def stopping(self, weights, tries):
        """The cost of giving the best verdict of each test now."""
        total = 0
        for number, suspect in enumerate(self.suspects):
            others = weights[:number] + weights[number + 1:]
            total += min(suspect.verdict_costs(weights[number])) * self.scale(others, tries)
        return total

    def behind(self, number, passed, weights):
        """The weights of all tests behind one more result of one of them."""
        own = self.suspects[number].weights_after(weights[number], passed, self.whole)
        return weights[:number] + (own,) + weights[number + 1:]

    def trying(self, number, weights, tries):
        """The cost of trying this test now, then going on in the best way."""
        spent = self.try_cost * self.scale(weights, tries)
        failed = self.least(self.behind(number, False, weights), tries - 1)
        passed = self.least(self.behind(number, True, weights), tries - 1)
        return spent + failed + passed

    def beginnings(self, weights, tries):
        """The costs of stopping, then of trying each test: of equal ones the first is to be taken."""
        costs = [self.stopping(weights, tries)]
        if tries > 0:
            for number in range(len(self.suspects)):
                costs.append(self.trying(number, weights, tries))
        return costs

    def least(self, weights, tries):
        """The cost of the best way."""
        # The same results in another order lead to the same place, so each place is worked out once.
        place = (weights, tries)
        if place not in self.known:
            self.known[place] = min(self.beginnings(weights, tries))
        return self.known[place]
