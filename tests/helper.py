"""Handing in calls by their names, and a second way to compute what must be answered.

The model here follows DOC.md, but by other means than the package: polynomials
are written out in powers of x, and fractions are those of Python's library.
"""

from fractions import Fraction
from functools import lru_cache
from math import comb, factorial

from armchoice.covers import answers

NAMES = ("create", "add_arm", "record", "undo", "set_truth", "arm_info", "mean", "variance", "exceed",
         "best_probability", "compare", "expected_max", "index", "propensities", "draw", "optimal", "choice_value",
         "policy_value", "expected_reward", "regret", "expected_pulls", "information", "eliminate", "simulate", "run",
         "history", "status")
ARGUMENT_COUNTS = (0, 2, 2, 0, 1, 1, 1, 1, 3, 1, 2, 0, 2, 2, 3, 1, 2, 3, 3, 3, 3, 1, 1, 4, 4, 0, 0)
ONE_FRACTION = ("mean", "variance", "exceed", "best_probability", "compare", "expected_max", "index", "draw", "optimal",
                "choice_value", "policy_value", "expected_reward", "regret", "information")
SEVERAL_FRACTIONS = ("propensities", "expected_pulls")
GREATEST = 4294967295
PARAMETERS = (0, 1, 500, 999, 1000)


def numbers_of(call):
    name = call[0]
    number = NAMES.index(name)
    if len(call) - 1 != ARGUMENT_COUNTS[number]:
        raise AssertionError(f"{name} doesn't have {len(call) - 1} arguments")
    if name == "set_truth":
        return [number, len(call[1])] + list(call[1])
    return [number] + list(call[1:])


def hand_in(calls):
    """The list for these calls; a test may only hand in what the document lets be handed in."""
    numbers = []
    for call in calls:
        numbers.extend(numbers_of(call))
    if not 1 <= len(calls) <= 60 or len(numbers) > 300:
        raise AssertionError(f"{len(calls)} calls with {len(numbers)} numbers are not handed in")
    return numbers


def split_answers(numbers, count):
    """The answers one by one; raises if the list doesn't have the form that the document tells."""
    if type(numbers) is not list or not all(type(number) is int for number in numbers):
        raise AssertionError("the answers are not a list of whole numbers")
    found = []
    place = 0
    while place < len(numbers):
        length = numbers[place]
        answer = numbers[place + 1:place + 1 + length]
        if length < 1 or len(answer) != length:
            raise AssertionError(f"{length} numbers can't follow at {place}")
        if min(answer) < 0 and length > 1:
            raise AssertionError(f"{answer} is neither a refusal nor another answer")
        found.append(answer)
        place += 1 + length
    if len(found) != count:
        raise AssertionError(f"{count} calls have {len(found)} answers")
    return found


def ask(*calls):
    """One answer for each call, all of them on one new object."""
    return split_answers(answers(hand_in(calls)), len(calls))


def ask_last(*calls):
    return ask(*calls)[-1]


def bandit(*arms, trials=()):
    """The calls that make a bandit with these arms and trials."""
    return [("create",)] + [("add_arm", a, b) for a, b in arms] + [("record", arm, result) for arm, result in trials]


def fractions_in(call, answer):
    """The fractions of an answer, as pairs of whole numbers."""
    if answer[0] < 0:
        return []
    if call[0] in SEVERAL_FRACTIONS:
        return list(zip(answer[1::2], answer[2::2]))
    if call[0] in ONE_FRACTION:
        return [(answer[1], answer[2])]
    return []


def value(answer):
    """The fraction of an answer that has one."""
    zero, numerator, denominator = answer
    if zero != 0:
        raise AssertionError(f"{answer} doesn't begin with 0")
    return Fraction(numerator, denominator)


def values(answer):
    """The fractions of an answer of propensities or expected_pulls."""
    if len(answer) != 1 + 2 * answer[0]:
        raise AssertionError(f"{answer} doesn't have {answer[0]} fractions")
    return [Fraction(*pair) for pair in zip(answer[1::2], answer[2::2])]


class Numbers:
    """Numbers that look random and are the same every time."""

    def __init__(self, seed):
        self.seed = seed

    def below(self, limit):
        self.seed = (6364136223846793005 * self.seed + 1442695040888963407) % 2 ** 64
        return (self.seed >> 33) % limit

    def one_of(self, choices):
        return choices[self.below(len(choices))]


def some_arms(numbers, count):
    return [(1 + numbers.below(20), 1 + numbers.below(20)) for place in range(count)]


def some_trials(numbers, arms, most):
    return tuple((numbers.below(arms), numbers.below(2)) for place in range(numbers.below(most + 1)))


def some_bandits(seed, most_trials=40):
    """Bandits with one, two and three arms and several trials, ties of equal arms among them."""
    numbers = Numbers(seed)
    for count in (1, 2, 3) * 6:
        arms = some_arms(numbers, count)
        if numbers.below(3) == 0:
            arms = [arms[0]] * count
        yield count, bandit(*arms, trials=some_trials(numbers, count, most_trials))


# Polynomials: the coefficient of x^k stands at k.

@lru_cache(maxsize=None)
def density(alpha, beta):
    scale = factorial(alpha + beta - 1) // (factorial(alpha - 1) * factorial(beta - 1))
    signed = [(-1) ** k * comb(beta - 1, k) for k in range(beta)]
    return (0,) * (alpha - 1) + tuple(scale * coefficient for coefficient in signed)


@lru_cache(maxsize=None)
def distribution(alpha, beta):
    return (0,) + tuple(Fraction(c, k + 1) for k, c in enumerate(density(alpha, beta)))


def times(left, right):
    result = [0] * (len(left) + len(right) - 1)
    for i, x in enumerate(left):
        for j, y in enumerate(right):
            result[i + j] += x * y
    return tuple(result)


@lru_cache(maxsize=None)
def chance_of_best(one, others):
    polynomial = density(*one)
    for other in others:
        polynomial = times(polynomial, distribution(*other))
    return sum(Fraction(c) / (k + 1) for k, c in enumerate(polynomial))


@lru_cache(maxsize=None)
def greatest_of(pairs):
    polynomial = (1,)
    for pair in pairs:
        polynomial = times(polynomial, distribution(*pair))
    return sum(Fraction(c) * k / (k + 1) for k, c in enumerate(polynomial))


def chance_above(pair, limit):
    return 1 - sum(c * limit ** k for k, c in enumerate(distribution(*pair)))


# A state is a tuple of arms, each (alpha, beta, number of trials). Without a truth, chances are believed.

def indexes(state, bonus):
    return [Fraction(alpha + bonus, alpha + beta + bonus) for alpha, beta, count in state]


def first_best(fractions):
    return fractions.index(max(fractions))


def one_arm_of(policy, parameter, state):
    if policy == 3:
        for arm, (alpha, beta, count) in enumerate(state):
            if count < parameter:
                return arm
    return first_best(indexes(state, parameter if policy == 1 else 0))


def best_chances(state):
    pairs = [(alpha, beta) for alpha, beta, count in state]
    return [chance_of_best(pair, tuple(sorted(pairs[:arm] + pairs[arm + 1:]))) for arm, pair in enumerate(pairs)]


def propensities_at(policy, parameter, state):
    if policy == 4:
        return best_chances(state)
    share = {2: Fraction(parameter, 1000), 5: Fraction(1)}.get(policy, Fraction(0))
    chosen = one_arm_of(policy, parameter, state)
    return [share / len(state) + (1 - share) * (arm == chosen) for arm in range(len(state))]


def state_after(state, arm, result):
    alpha, beta, count = state[arm]
    return state[:arm] + ((alpha + result, beta + 1 - result, count + 1),) + state[arm + 1:]


def chance_of_success(state, arm, truth):
    return indexes(state, 0)[arm] if truth is None else Fraction(truth[arm], 1000)


@lru_cache(maxsize=None)
def lookahead(wanted, policy, parameter, state, steps, truth):
    """The expected number of choices of the wanted arm; of successes, if no arm is wanted."""
    if steps == 0:
        return Fraction(0)
    total = Fraction(0)
    for arm, propensity in enumerate(propensities_at(policy, parameter, state)):
        success = chance_of_success(state, arm, truth)
        for result, chance in ((1, success), (0, 1 - success)):
            if propensity * chance:
                gain = result if wanted is None else int(arm == wanted)
                later = lookahead(wanted, policy, parameter, state_after(state, arm, result), steps - 1, truth)
                total += propensity * chance * (gain + later)
    return total


def reward(policy, parameter, state, steps, truth):
    return lookahead(None, policy, parameter, state, steps, truth)


@lru_cache(maxsize=None)
def best_value(state, steps):
    return max(choice_worth(state, arm, steps) for arm in range(len(state))) if steps else Fraction(0)


def choice_worth(state, arm, steps):
    mean = indexes(state, 0)[arm]
    better = best_value(state_after(state, arm, 1), steps - 1)
    worse = best_value(state_after(state, arm, 0), steps - 1)
    return mean * (1 + better) + (1 - mean) * worse


def draw_from(seed):
    """The new seed and the draw."""
    seed = (1103515245 * seed + 12345) % 2 ** 31
    return seed, Fraction(seed, 2 ** 31)


def drawn_arm(propensities, draw):
    sums = [sum(propensities[:arm + 1]) for arm in range(len(propensities))]
    return [arm for arm, reached in enumerate(sums) if reached > draw][0]


class Refused(Exception):
    pass


def refuse_if(condition, code):
    if condition:
        raise Refused(code)


def pairs_of(fractions):
    numbers = []
    for fraction in fractions:
        numbers += [fraction.numerator, fraction.denominator]
    return numbers


class Model:
    """What DOC.md says of the calls."""

    def __init__(self):
        self.arms = None
        self.trials = None
        self.truth = None

    def answer(self, call):
        try:
            refuse_if(self.arms is None and call[0] != "create", -11)
            return getattr(self, call[0])(*call[1:])
        except Refused as refused:
            return [refused.args[0]]

    def need_arm(self, arm):
        refuse_if(arm >= len(self.arms), -2)

    def results(self, arm):
        return [result for one, result in self.trials if one == arm]

    def pair(self, arm):
        results = self.results(arm)
        a, b = self.arms[arm]
        return a + sum(results), b + len(results) - sum(results)

    def state(self):
        return tuple((*self.pair(arm), len(self.results(arm))) for arm in range(len(self.arms)))

    def need_policy(self, policy, parameter, steps=0):
        refuse_if(policy > 5 or parameter > 1000 or steps > (3 if policy == 4 else 5), -22)
        refuse_if(not self.arms, -33)

    def need_truth(self, policy, parameter, steps):
        self.need_policy(policy, parameter, steps)
        refuse_if(self.truth is None, -16)

    def create(self):
        self.arms = []
        self.trials = []
        self.truth = ()
        return [0]

    def add_arm(self, a, b):
        refuse_if(not (1 <= a <= 20 and 1 <= b <= 20), -22)
        refuse_if(len(self.arms) == 3, -28)
        self.arms.append((a, b))
        self.truth = None
        return [len(self.arms) - 1]

    def record(self, arm, result):
        self.need_arm(arm)
        refuse_if(result > 1, -22)
        refuse_if(len(self.trials) == 40, -28)
        self.trials.append((arm, result))
        return [len(self.trials)]

    def undo(self):
        refuse_if(not self.trials, -33)
        arm, result = self.trials.pop()
        return [len(self.trials), arm, result]

    def set_truth(self, truth):
        refuse_if(len(truth) != len(self.arms) or any(part > 1000 for part in truth), -22)
        self.truth = tuple(truth)
        return [0]

    def arm_info(self, arm):
        self.need_arm(arm)
        results = self.results(arm)
        return [*self.arms[arm], results.count(1), results.count(0)]

    def mean(self, arm):
        return self.index(arm, 0)

    def variance(self, arm):
        self.need_arm(arm)
        alpha, beta = self.pair(arm)
        mean = Fraction(alpha, alpha + beta)
        return [0] + pairs_of([mean * (1 - mean) / (alpha + beta + 1)])

    def exceed(self, arm, num, den):
        self.need_arm(arm)
        refuse_if(not 1 <= den <= 1000 or num > den, -22)
        return [0] + pairs_of([chance_above(self.pair(arm), Fraction(num, den))])

    def best_probability(self, arm):
        self.need_arm(arm)
        return [0] + pairs_of([best_chances(self.state())[arm]])

    def compare(self, first, second):
        self.need_arm(first)
        self.need_arm(second)
        refuse_if(first == second, -22)
        return [0] + pairs_of([chance_of_best(self.pair(first), (self.pair(second),))])

    def expected_max(self):
        refuse_if(not self.arms, -33)
        return [0] + pairs_of([greatest_of(tuple(sorted(self.pair(arm) for arm in range(len(self.arms)))))])

    def index(self, arm, bonus):
        self.need_arm(arm)
        refuse_if(bonus > 1000, -22)
        alpha, beta = self.pair(arm)
        return [0] + pairs_of([Fraction(alpha + bonus, alpha + beta + bonus)])

    def propensities(self, policy, parameter):
        self.need_policy(policy, parameter)
        return [len(self.arms)] + pairs_of(propensities_at(policy, parameter, self.state()))

    def draw(self, policy, parameter, seed):
        self.need_policy(policy, parameter)
        propensities = propensities_at(policy, parameter, self.state())
        arm = drawn_arm(propensities, draw_from(seed)[1])
        return [arm] + pairs_of([propensities[arm]])

    def optimal(self, steps):
        refuse_if(steps > 5, -22)
        refuse_if(not self.arms, -33)
        return [0] + pairs_of([best_value(self.state(), steps)])

    def choice_value(self, arm, steps):
        self.need_arm(arm)
        refuse_if(not 1 <= steps <= 5, -22)
        return [0] + pairs_of([choice_worth(self.state(), arm, steps)])

    def policy_value(self, policy, parameter, steps):
        self.need_policy(policy, parameter, steps)
        return [0] + pairs_of([reward(policy, parameter, self.state(), steps, None)])

    def expected_reward(self, policy, parameter, steps):
        self.need_truth(policy, parameter, steps)
        return [0] + pairs_of([reward(policy, parameter, self.state(), steps, self.truth)])

    def regret(self, policy, parameter, steps):
        self.need_truth(policy, parameter, steps)
        lost = Fraction(steps * max(self.truth), 1000) - reward(policy, parameter, self.state(), steps, self.truth)
        return [0] + pairs_of([lost])

    def expected_pulls(self, policy, parameter, steps):
        self.need_truth(policy, parameter, steps)
        state = self.state()
        return [len(state)] + pairs_of([lookahead(arm, policy, parameter, state, steps, self.truth)
                                        for arm in range(len(state))])

    def information(self, arm):
        self.need_arm(arm)
        state = self.state()
        mean = indexes(state, 0)[arm]
        better, worse = [max(indexes(state_after(state, arm, result), 0)) for result in (1, 0)]
        return [0] + pairs_of([mean * better + (1 - mean) * worse - max(indexes(state, 0))])

    def eliminate(self, threshold):
        refuse_if(threshold > 1000, -22)
        less = [arm for arm, chance in enumerate(best_chances(self.state())) if chance < Fraction(threshold, 1000)]
        return [len(less)] + less

    def simulated(self, policy, parameter, steps, seed):
        state = self.state()
        trials = []
        for step in range(steps):
            seed, draw = draw_from(seed)
            arm = drawn_arm(propensities_at(policy, parameter, state), draw)
            seed, draw = draw_from(seed)
            trials.append((arm, int(draw < Fraction(self.truth[arm], 1000))))
            state = state_after(state, *trials[-1])
        return seed, trials

    def simulate(self, policy, parameter, steps, seed):
        self.need_truth(policy, parameter, steps)
        seed, trials = self.simulated(policy, parameter, steps, seed)
        return [seed, sum(result for arm, result in trials)] + [number for trial in trials for number in trial]

    def run(self, policy, parameter, steps, seed):
        self.need_truth(policy, parameter, steps)
        refuse_if(len(self.trials) + steps > 40, -28)
        seed, trials = self.simulated(policy, parameter, steps, seed)
        self.trials += trials
        return [seed, sum(result for arm, result in trials)]

    def history(self):
        return [len(self.trials)] + [number for trial in self.trials for number in trial]

    def status(self):
        successes = sum(result for arm, result in self.trials)
        return [len(self.arms), len(self.trials), successes, int(self.truth is not None)]


def expected(*calls):
    """What the model answers to the calls, as `ask` gives it back."""
    model = Model()
    return [model.answer(call) for call in calls]
