"""An arm: its parameters, the results of its trials, and what its own distribution says."""

from armchoice.ratios import Ratio


# An arm isn't changed: what another trial would make of it is another arm.
class Arm:

    def __init__(self, a, b, successes, failures):
        self.a = a
        self.b = b
        self.successes = successes
        self.failures = failures
        self.alpha = a + successes
        self.beta = b + failures

    def trial_count(self):
        return self.successes + self.failures

    def index_for(self, bonus):
        return Ratio(self.alpha + bonus, self.alpha + self.beta + bonus)

    def mean(self):
        return self.index_for(0)

    def variance(self):
        total = self.alpha + self.beta
        return Ratio(self.alpha * self.beta, total * total * (total + 1))

    def after(self, result):
        return Arm(self.a, self.b, self.successes + result, self.failures + 1 - result)


def arms_after(arms, place, result):
    following = list(arms)
    following[place] = arms[place].after(result)
    return following
