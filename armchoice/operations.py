"""The operations: each takes the bandit and a list of arguments, and answers a list of numbers.

All checks of an operation come before its first change, so that a refusal changes nothing.
"""

from armchoice.outlooks import Assumed, Believed, Outlook, information_of, optimal_value, value_of_choice
from armchoice.policies import MATCHING, policy_shares, propensity
from armchoice.probabilities import expected_greatest, probability_above, probability_of_best
from armchoice.ratios import Ratio
from armchoice.refusals import NoBandit, NoTruth, NothingThere, OutsideLimits, TooMany
from armchoice.simulations import Simulation, arm_of_draw, next_seed

MOST_ARMS = 3
MOST_TRIALS = 40
GREATEST_ARM_PARAMETER = 20
GREATEST_POLICY = 5
MOST_STEPS = 5
MOST_STEPS_OF_MATCHING = 3
THOUSAND = 1000


def check_limits(value, least, greatest):
    if value < least or value > greatest:
        raise OutsideLimits()


def check_there_are_arms(bandit):
    if bandit.arm_count() == 0:
        raise NothingThere()


def check_policy(arguments):
    check_limits(arguments[0], 0, GREATEST_POLICY)
    check_limits(arguments[1], 0, THOUSAND)


# Here and below, a policy, its parameter and a number of steps come first among the arguments.
def check_policy_and_steps(arguments):
    check_policy(arguments)
    most = MOST_STEPS
    if arguments[0] == MATCHING:
        most = MOST_STEPS_OF_MATCHING
    check_limits(arguments[2], 0, most)


def check_assumed_steps(bandit, arguments):
    check_policy_and_steps(arguments)
    check_there_are_arms(bandit)
    if not bandit.has_truth():
        raise NoTruth()


def check_room_for_trials(bandit, count):
    if len(bandit.trials) + count > MOST_TRIALS:
        raise TooMany()


def with_fraction(ratio):
    return [0, ratio.num, ratio.den]


def with_fractions(ratios):
    numbers = [len(ratios)]
    for ratio in ratios:
        numbers.extend([ratio.num, ratio.den])
    return numbers


def with_trials(numbers, trials):
    for place, result in trials:
        numbers.extend([place, result])
    return numbers


# The new bandit itself is made by the caller, who keeps it.
def create(bandit, arguments):
    return [0]


def add_arm(bandit, arguments):
    for parameter in arguments:
        check_limits(parameter, 1, GREATEST_ARM_PARAMETER)
    if bandit.arm_count() == MOST_ARMS:
        raise TooMany()
    bandit.parameters.append((arguments[0], arguments[1]))
    bandit.truth = []
    return [bandit.arm_count() - 1]


def record(bandit, arguments):
    place = arguments[0]
    result = arguments[1]
    bandit.check_arm(place)
    check_limits(result, 0, 1)
    check_room_for_trials(bandit, 1)
    bandit.trials.append((place, result))
    return [len(bandit.trials)]


def undo(bandit, arguments):
    if len(bandit.trials) == 0:
        raise NothingThere()
    trial = bandit.trials.pop()
    return [len(bandit.trials), trial[0], trial[1]]


def set_truth(bandit, truth):
    if len(truth) != bandit.arm_count():
        raise OutsideLimits()
    for thousandths in truth:
        check_limits(thousandths, 0, THOUSAND)
    bandit.truth = list(truth)
    return [0]


def arm_info(bandit, arguments):
    arm = bandit.arm_at(arguments[0])
    return [arm.a, arm.b, arm.successes, arm.failures]


def mean(bandit, arguments):
    return with_fraction(bandit.arm_at(arguments[0]).mean())


def variance(bandit, arguments):
    return with_fraction(bandit.arm_at(arguments[0]).variance())


def exceed(bandit, arguments):
    arm = bandit.arm_at(arguments[0])
    num = arguments[1]
    den = arguments[2]
    check_limits(den, 1, THOUSAND)
    check_limits(num, 0, den)
    return with_fraction(probability_above(arm, num, den))


def best_probability(bandit, arguments):
    place = arguments[0]
    bandit.check_arm(place)
    return with_fraction(probability_of_best(bandit.all_arms(), place))


def compare(bandit, arguments):
    first = bandit.arm_at(arguments[0])
    second = bandit.arm_at(arguments[1])
    if arguments[0] == arguments[1]:
        raise OutsideLimits()
    return with_fraction(probability_of_best([first, second], 0))


def expected_max(bandit, arguments):
    check_there_are_arms(bandit)
    return with_fraction(expected_greatest(bandit.all_arms()))


def index_for_bonus(bandit, arguments):
    arm = bandit.arm_at(arguments[0])
    check_limits(arguments[1], 0, THOUSAND)
    return with_fraction(arm.index_for(arguments[1]))


def checked_shares(bandit, arguments):
    check_policy(arguments)
    check_there_are_arms(bandit)
    return policy_shares(arguments[0], arguments[1], bandit.all_arms())


def propensities(bandit, arguments):
    shares = checked_shares(bandit, arguments)
    return with_fractions([propensity(shares, place) for place in range(len(shares))])


def draw(bandit, arguments):
    shares = checked_shares(bandit, arguments)
    place = arm_of_draw(shares, next_seed(arguments[2]))
    ratio = propensity(shares, place)
    return [place, ratio.num, ratio.den]


def optimal(bandit, arguments):
    steps = arguments[0]
    check_limits(steps, 0, MOST_STEPS)
    check_there_are_arms(bandit)
    return with_fraction(optimal_value(bandit.all_arms(), steps))


def choice_value(bandit, arguments):
    place = arguments[0]
    steps = arguments[1]
    bandit.check_arm(place)
    check_limits(steps, 1, MOST_STEPS)
    return with_fraction(value_of_choice(bandit.all_arms(), place, steps))


def outlook(bandit, arguments, chances):
    return Outlook(arguments[0], arguments[1], bandit.all_arms(), arguments[2], chances)


def assumed_outlook(bandit, arguments):
    check_assumed_steps(bandit, arguments)
    return outlook(bandit, arguments, Assumed(bandit.truth))


def policy_value(bandit, arguments):
    check_policy_and_steps(arguments)
    check_there_are_arms(bandit)
    chances = Believed(bandit.all_arms(), arguments[2])
    return with_fraction(outlook(bandit, arguments, chances).expected_successes())


def expected_reward(bandit, arguments):
    return with_fraction(assumed_outlook(bandit, arguments).expected_successes())


def regret(bandit, arguments):
    reward = assumed_outlook(bandit, arguments).expected_successes()
    most = Ratio(arguments[2] * max(bandit.truth), THOUSAND)
    return with_fraction(most.minus(reward))


def expected_pulls(bandit, arguments):
    ahead = assumed_outlook(bandit, arguments)
    return with_fractions([ahead.expected_choices(place) for place in range(bandit.arm_count())])


def information(bandit, arguments):
    place = arguments[0]
    bandit.check_arm(place)
    return with_fraction(information_of(bandit.all_arms(), place))


def eliminate(bandit, arguments):
    check_limits(arguments[0], 0, THOUSAND)
    threshold = Ratio(arguments[0], THOUSAND)
    arms = bandit.all_arms()
    places = [place for place in range(len(arms)) if threshold.exceeds(probability_of_best(arms, place))]
    return [len(places)] + places


def simulation(bandit, arguments):
    found = Simulation(arguments[3])
    found.go(arguments[0], arguments[1], bandit.all_arms(), arguments[2], bandit.truth)
    return found


def simulate(bandit, arguments):
    check_assumed_steps(bandit, arguments)
    found = simulation(bandit, arguments)
    return with_trials([found.seed, found.success_count()], found.trials)


def run(bandit, arguments):
    check_assumed_steps(bandit, arguments)
    check_room_for_trials(bandit, arguments[2])
    found = simulation(bandit, arguments)
    bandit.trials.extend(found.trials)
    return [found.seed, found.success_count()]


def history(bandit, arguments):
    return with_trials([len(bandit.trials)], bandit.trials)


def status(bandit, arguments):
    successes = sum([result for place, result in bandit.trials])
    return [bandit.arm_count(), len(bandit.trials), successes, int(bandit.has_truth())]


# Each operation stands at the place of its number.
OPERATIONS = (
    create,
    add_arm,
    record,
    undo,
    set_truth,
    arm_info,
    mean,
    variance,
    exceed,
    best_probability,
    compare,
    expected_max,
    index_for_bonus,
    propensities,
    draw,
    optimal,
    choice_value,
    policy_value,
    expected_reward,
    regret,
    expected_pulls,
    information,
    eliminate,
    simulate,
    run,
    history,
    status,
)


def operate(bandit, number, arguments):
    if bandit is None:
        raise NoBandit()
    operation = OPERATIONS[number]
    return operation(bandit, arguments)
