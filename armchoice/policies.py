"""The policies: with which probabilities each of them chooses each arm."""

from armchoice.probabilities import probability_of_best
from armchoice.ratios import Ratio

OPTIMISTIC = 1
NOW_AND_THEN_AT_RANDOM = 2
FIRST_EXPLORE = 3
MATCHING = 4
AT_RANDOM = 5


# Only a greater one takes the place of the best so far: of equal ones the smaller number stays.
def place_of_greatest(ratios):
    best = 0
    for place, ratio in enumerate(ratios):
        if ratio.exceeds(ratios[best]):
            best = place
    return best


def greedy_arm(arms):
    return place_of_greatest([arm.mean() for arm in arms])


def optimistic_arm(arms, bonus):
    return place_of_greatest([arm.index_for(bonus) for arm in arms])


def arm_to_explore(arms, trials):
    for place, arm in enumerate(arms):
        if arm.trial_count() < trials:
            return place
    return greedy_arm(arms)


def chosen_arm(policy, parameter, arms):
    if policy == OPTIMISTIC:
        return optimistic_arm(arms, parameter)
    if policy == FIRST_EXPLORE:
        return arm_to_explore(arms, parameter)
    return greedy_arm(arms)


# So many thousandths are shared by all arms alike; the chosen arm has the rest as well.
def mixed_propensities(arms, chosen, thousandths):
    whole = 1000 * len(arms)
    propensities = [Ratio(thousandths, whole) for arm in arms]
    propensities[chosen] = Ratio(thousandths + (1000 - thousandths) * len(arms), whole)
    return propensities


def policy_propensities(policy, parameter, arms):
    if policy == MATCHING:
        return [probability_of_best(arms, place) for place in range(len(arms))]
    thousandths = 0
    if policy == NOW_AND_THEN_AT_RANDOM:
        thousandths = parameter
    if policy == AT_RANDOM:
        thousandths = 1000
    return mixed_propensities(arms, chosen_arm(policy, parameter, arms), thousandths)
