"""What the next steps can bring: how probable it is, and what is best to choose.

Chances and values are counted in whole numbers here, as parts of a whole that all
of the same step have in common, so that nothing but an answer has to be reduced.
"""

from armchoice.arms import arms_after
from armchoice.policies import greatest_mean, policy_shares
from armchoice.probabilities import powers
from armchoice.ratios import Ratio


# How probable a success is, if what is known now is right.
class Believed:

    # The whole is a multiple of whatever a mean is divided by within these steps.
    def __init__(self, arms, steps):
        self.whole = 1
        for arm in arms:
            for further in range(steps):
                self.whole *= arm.alpha + arm.beta + further

    def success_parts(self, arms, place):
        arm = arms[place]
        return arm.alpha * (self.whole // (arm.alpha + arm.beta))


# How probable a success is, if the assumed probabilities are right.
class Assumed:

    def __init__(self, truth):
        self.truth = truth
        self.whole = 1000

    def success_parts(self, arms, place):
        return self.truth[place]


# The order of trials doesn't matter to what comes next.
def what_counts(arms):
    return tuple([(arm.successes, arm.failures) for arm in arms])


def add_outcome(outcomes, arms, weight):
    key = what_counts(arms)
    if key in outcomes:
        weight += outcomes[key][1]
    outcomes[key] = (arms, weight)


def one_step_on(policy, parameter, outcomes, chances):
    following = {}
    for arms, weight in outcomes.values():
        for place, share in enumerate(policy_shares(policy, parameter, arms)):
            hits = chances.success_parts(arms, place)
            for result, parts in ((1, hits), (0, chances.whole - hits)):
                if share * parts != 0:
                    add_outcome(following, arms_after(arms, place, result), weight * share * parts)
    return following


# Everything that a policy's steps can lead to. Each outcome is the arms as they
# are then, and a weight: its probability as a part of the sum of all weights.
class Outlook:

    def __init__(self, policy, parameter, arms, steps, chances):
        self.start = arms
        outcomes = {}
        add_outcome(outcomes, arms, 1)
        for step in range(steps):
            outcomes = one_step_on(policy, parameter, outcomes, chances)
        self.outcomes = list(outcomes.values())
        self.whole = sum([weight for arms_then, weight in self.outcomes])

    # Every choice of an arm is one more trial of it.
    def expected_choices(self, place):
        parts = 0
        for arms, weight in self.outcomes:
            parts += weight * (arms[place].trial_count() - self.start[place].trial_count())
        return Ratio(parts, self.whole)

    def expected_successes(self):
        before = sum([arm.successes for arm in self.start])
        parts = 0
        for arms, weight in self.outcomes:
            parts += weight * (sum([arm.successes for arm in arms]) - before)
        return Ratio(parts, self.whole)


# The optimal values within some steps. With n steps left, they are parts of wholes[n].
class Foresight:

    def __init__(self, arms, steps):
        self.chances = Believed(arms, steps)
        self.wholes = powers(self.chances.whole, steps)
        self.known = {}

    # How many steps are left follows from the trials, so what counts is enough of a key.
    def optimal_parts(self, arms, steps):
        if steps == 0:
            return 0
        key = what_counts(arms)
        if key not in self.known:
            self.known[key] = max([self.choice_parts(arms, place, steps) for place in range(len(arms))])
        return self.known[key]

    def choice_parts(self, arms, place, steps):
        hits = self.chances.success_parts(arms, place)
        after_success = self.optimal_parts(arms_after(arms, place, 1), steps - 1)
        after_failure = self.optimal_parts(arms_after(arms, place, 0), steps - 1)
        return hits * (self.wholes[steps - 1] + after_success) + (self.chances.whole - hits) * after_failure


def optimal_value(arms, steps):
    foresight = Foresight(arms, steps)
    return Ratio(foresight.optimal_parts(arms, steps), foresight.wholes[steps])


def value_of_choice(arms, place, steps):
    foresight = Foresight(arms, steps)
    return Ratio(foresight.choice_parts(arms, place, steps), foresight.wholes[steps])


def information_of(arms, place):
    arm = arms[place]
    success = arm.mean()
    failure = Ratio(arm.beta, arm.alpha + arm.beta)
    known_better = success.times(greatest_mean(arms_after(arms, place, 1)))
    known_worse = failure.times(greatest_mean(arms_after(arms, place, 0)))
    return known_better.plus(known_worse).minus(greatest_mean(arms))
