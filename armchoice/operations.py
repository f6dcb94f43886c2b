"""The operations: each takes the bandit and a list of arguments, and answers a list of numbers.

All checks of an operation come before its first change, so that a refusal changes nothing.
"""

from armchoice.policies import policy_propensities
from armchoice.probabilities import expected_greatest, probability_above, probability_of_best
from armchoice.refusals import NoBandit, NothingThere, OutsideLimits, TooMany

MOST_ARMS = 3
MOST_TRIALS = 40
GREATEST_ARM_PARAMETER = 20
GREATEST_POLICY = 5
THOUSAND = 1000


def check_limits(value, least, greatest):
    if value < least or value > greatest:
        raise OutsideLimits()


def check_there_are_arms(bandit):
    if bandit.arm_count() == 0:
        raise NothingThere()


def with_fraction(ratio):
    return [0, ratio.num, ratio.den]


def with_fractions(ratios):
    numbers = [len(ratios)]
    for ratio in ratios:
        numbers.extend([ratio.num, ratio.den])
    return numbers


# The new bandit itself is made by the caller, who keeps it.
def create(bandit, arguments):
    return [0]


def add_arm(bandit, arguments):
    for parameter in arguments:
        check_limits(parameter, 1, GREATEST_ARM_PARAMETER)
    if bandit.arm_count() == MOST_ARMS:
        raise TooMany()
    bandit.parameters.append((arguments[0], arguments[1]))
    bandit.truth = []
    return [bandit.arm_count() - 1]


def record(bandit, arguments):
    place = arguments[0]
    result = arguments[1]
    bandit.check_arm(place)
    check_limits(result, 0, 1)
    if len(bandit.trials) == MOST_TRIALS:
        raise TooMany()
    bandit.trials.append((place, result))
    return [len(bandit.trials)]


def undo(bandit, arguments):
    if len(bandit.trials) == 0:
        raise NothingThere()
    trial = bandit.trials.pop()
    return [len(bandit.trials), trial[0], trial[1]]


def set_truth(bandit, truth):
    if len(truth) != bandit.arm_count():
        raise OutsideLimits()
    for thousandths in truth:
        check_limits(thousandths, 0, THOUSAND)
    bandit.truth = list(truth)
    return [0]


def arm_info(bandit, arguments):
    arm = bandit.arm_at(arguments[0])
    return [arm.a, arm.b, arm.successes, arm.failures]


def mean(bandit, arguments):
    return with_fraction(bandit.arm_at(arguments[0]).mean())


def variance(bandit, arguments):
    return with_fraction(bandit.arm_at(arguments[0]).variance())


def exceed(bandit, arguments):
    arm = bandit.arm_at(arguments[0])
    num = arguments[1]
    den = arguments[2]
    check_limits(den, 1, THOUSAND)
    check_limits(num, 0, den)
    return with_fraction(probability_above(arm, num, den))


def best_probability(bandit, arguments):
    place = arguments[0]
    bandit.check_arm(place)
    return with_fraction(probability_of_best(bandit.all_arms(), place))


def compare(bandit, arguments):
    first = bandit.arm_at(arguments[0])
    second = bandit.arm_at(arguments[1])
    if arguments[0] == arguments[1]:
        raise OutsideLimits()
    return with_fraction(probability_of_best([first, second], 0))


def expected_max(bandit, arguments):
    check_there_are_arms(bandit)
    return with_fraction(expected_greatest(bandit.all_arms()))


def index_for_bonus(bandit, arguments):
    arm = bandit.arm_at(arguments[0])
    check_limits(arguments[1], 0, THOUSAND)
    return with_fraction(arm.index_for(arguments[1]))


def propensities(bandit, arguments):
    check_limits(arguments[0], 0, GREATEST_POLICY)
    check_limits(arguments[1], 0, THOUSAND)
    check_there_are_arms(bandit)
    return with_fractions(policy_propensities(arguments[0], arguments[1], bandit.all_arms()))


# Each operation stands at the place of its number.
OPERATIONS = (
    create,
    add_arm,
    record,
    undo,
    set_truth,
    arm_info,
    mean,
    variance,
    exceed,
    best_probability,
    compare,
    expected_max,
    index_for_bonus,
    propensities,
)


def operate(bandit, number, arguments):
    if bandit is None:
        raise NoBandit()
    operation = OPERATIONS[number]
    return operation(bandit, arguments)
