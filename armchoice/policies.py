"""The policies: with which probabilities each of them chooses each arm.

Shares are whole numbers, one for each arm: the propensity of an arm is its share
of their sum. For one policy, arms with as many trials in all have the same sum.
"""

from armchoice.probabilities import shares_of_best
from armchoice.ratios import Ratio

OPTIMISTIC = 1
NOW_AND_THEN_AT_RANDOM = 2
FIRST_EXPLORE = 3
MATCHING = 4
AT_RANDOM = 5


# Only a greater one takes the place of the best so far: of equal ones the smaller number stays.
def place_of_greatest(ratios):
    best = 0
    for place, ratio in enumerate(ratios):
        if ratio.exceeds(ratios[best]):
            best = place
    return best


def greedy_arm(arms):
    return place_of_greatest([arm.mean() for arm in arms])


def greatest_mean(arms):
    return arms[greedy_arm(arms)].mean()


def optimistic_arm(arms, bonus):
    return place_of_greatest([arm.index_for(bonus) for arm in arms])


def arm_to_explore(arms, trials):
    for place, arm in enumerate(arms):
        if arm.trial_count() < trials:
            return place
    return greedy_arm(arms)


def chosen_arm(policy, parameter, arms):
    if policy == OPTIMISTIC:
        return optimistic_arm(arms, parameter)
    if policy == FIRST_EXPLORE:
        return arm_to_explore(arms, parameter)
    return greedy_arm(arms)


# So many thousandths are shared by all arms alike; the chosen arm has the rest as well.
def mixed_shares(arms, chosen, thousandths):
    shares = [thousandths for arm in arms]
    shares[chosen] += (1000 - thousandths) * len(arms)
    return shares


def policy_shares(policy, parameter, arms):
    if policy == MATCHING:
        return shares_of_best(arms)
    thousandths = 0
    if policy == NOW_AND_THEN_AT_RANDOM:
        thousandths = parameter
    if policy == AT_RANDOM:
        thousandths = 1000
    return mixed_shares(arms, chosen_arm(policy, parameter, arms), thousandths)


def propensity(shares, place):
    return Ratio(shares[place], sum(shares))
