"""Handing in calls by their names, and a second way to compute what must be answered.

The model here follows DOC.md, but by other means than the package: polynomials
are written out in powers of x, and fractions are those of Python's library.
"""

from fractions import Fraction
from functools import lru_cache
from math import comb, factorial

from armchoice.covers import answers

NAMES = ("create", "add_arm", "record", "undo", "set_truth", "arm_info", "mean", "variance", "exceed",
         "best_probability", "compare", "expected_max", "index", "propensities")
ARGUMENT_COUNTS = (0, 2, 2, 0, 1, 1, 1, 1, 3, 1, 2, 0, 2, 2)
GREATEST = 4294967295
PARAMETERS = (0, 1, 500, 999, 1000)


def numbers_of(call):
    name = call[0]
    number = NAMES.index(name)
    if len(call) - 1 != ARGUMENT_COUNTS[number]:
        raise AssertionError(f"{name} doesn't have {len(call) - 1} arguments")
    if name == "set_truth":
        return [number, len(call[1])] + list(call[1])
    return [number] + list(call[1:])


def hand_in(calls):
    """The list for these calls; a test may only hand in what the document lets be handed in."""
    numbers = []
    for call in calls:
        numbers.extend(numbers_of(call))
    if not 1 <= len(calls) <= 60 or len(numbers) > 300:
        raise AssertionError(f"{len(calls)} calls with {len(numbers)} numbers are not handed in")
    return numbers


def split_answers(numbers, count):
    """The answers one by one; raises if the list doesn't have the form that the document tells."""
    if type(numbers) is not list or not all(type(number) is int for number in numbers):
        raise AssertionError("the answers are not a list of whole numbers")
    found = []
    place = 0
    while place < len(numbers):
        length = numbers[place]
        answer = numbers[place + 1:place + 1 + length]
        if length < 1 or len(answer) != length:
            raise AssertionError(f"{length} numbers can't follow at {place}")
        if min(answer) < 0 and length > 1:
            raise AssertionError(f"{answer} is neither a refusal nor another answer")
        found.append(answer)
        place += 1 + length
    if len(found) != count:
        raise AssertionError(f"{count} calls have {len(found)} answers")
    return found


def ask(*calls):
    """One answer for each call, all of them on one new object."""
    return split_answers(answers(hand_in(calls)), len(calls))


def ask_last(*calls):
    return ask(*calls)[-1]


def bandit(*arms, trials=()):
    """The calls that make a bandit with these arms and trials."""
    return [("create",)] + [("add_arm", a, b) for a, b in arms] + [("record", arm, result) for arm, result in trials]


def fractions_in(call, answer):
    """The fractions of an answer, as pairs of whole numbers."""
    if answer[0] < 0:
        return []
    if call[0] == "propensities":
        return list(zip(answer[1::2], answer[2::2]))
    if call[0] in ("mean", "variance", "exceed", "best_probability", "compare", "expected_max", "index"):
        return [(answer[1], answer[2])]
    return []


def value(answer):
    """The fraction of an answer that has one."""
    zero, numerator, denominator = answer
    if zero != 0:
        raise AssertionError(f"{answer} doesn't begin with 0")
    return Fraction(numerator, denominator)


def values(answer):
    """The fractions of an answer of propensities."""
    if len(answer) != 1 + 2 * answer[0]:
        raise AssertionError(f"{answer} doesn't have {answer[0]} fractions")
    return [Fraction(*pair) for pair in zip(answer[1::2], answer[2::2])]


class Numbers:
    """Numbers that look random and are the same every time."""

    def __init__(self, seed):
        self.seed = seed

    def below(self, limit):
        self.seed = (6364136223846793005 * self.seed + 1442695040888963407) % 2 ** 64
        return (self.seed >> 33) % limit

    def one_of(self, choices):
        return choices[self.below(len(choices))]


# Polynomials: the coefficient of x^k stands at k.

@lru_cache(maxsize=None)
def density(alpha, beta):
    scale = factorial(alpha + beta - 1) // (factorial(alpha - 1) * factorial(beta - 1))
    signed = [(-1) ** k * comb(beta - 1, k) for k in range(beta)]
    return (0,) * (alpha - 1) + tuple(scale * coefficient for coefficient in signed)


@lru_cache(maxsize=None)
def distribution(alpha, beta):
    return (0,) + tuple(Fraction(c, k + 1) for k, c in enumerate(density(alpha, beta)))


def times(left, right):
    result = [0] * (len(left) + len(right) - 1)
    for i, x in enumerate(left):
        for j, y in enumerate(right):
            result[i + j] += x * y
    return tuple(result)


@lru_cache(maxsize=None)
def chance_of_best(one, others):
    polynomial = density(*one)
    for other in others:
        polynomial = times(polynomial, distribution(*other))
    return sum(Fraction(c) / (k + 1) for k, c in enumerate(polynomial))


@lru_cache(maxsize=None)
def greatest_of(pairs):
    polynomial = (1,)
    for pair in pairs:
        polynomial = times(polynomial, distribution(*pair))
    return sum(Fraction(c) * k / (k + 1) for k, c in enumerate(polynomial))


def chance_above(pair, limit):
    return 1 - sum(c * limit ** k for k, c in enumerate(distribution(*pair)))


class Refused(Exception):
    pass


def refuse_if(condition, code):
    if condition:
        raise Refused(code)


def pairs_of(fractions):
    numbers = []
    for fraction in fractions:
        numbers += [fraction.numerator, fraction.denominator]
    return numbers


class Model:
    """What DOC.md says of the calls 0 to 13."""

    def __init__(self):
        self.arms = None
        self.trials = None

    def answer(self, call):
        try:
            refuse_if(self.arms is None and call[0] != "create", -11)
            return getattr(self, call[0])(*call[1:])
        except Refused as refused:
            return [refused.args[0]]

    def need_arm(self, arm):
        refuse_if(arm >= len(self.arms), -2)

    def results(self, arm):
        return [result for one, result in self.trials if one == arm]

    def pair(self, arm):
        results = self.results(arm)
        a, b = self.arms[arm]
        return a + sum(results), b + len(results) - sum(results)

    def pairs(self):
        return [self.pair(arm) for arm in range(len(self.arms))]

    def best(self, arm):
        pairs = self.pairs()
        return chance_of_best(pairs[arm], tuple(sorted(pairs[:arm] + pairs[arm + 1:])))

    def create(self):
        self.arms = []
        self.trials = []
        return [0]

    def add_arm(self, a, b):
        refuse_if(not (1 <= a <= 20 and 1 <= b <= 20), -22)
        refuse_if(len(self.arms) == 3, -28)
        self.arms.append((a, b))
        return [len(self.arms) - 1]

    def record(self, arm, result):
        self.need_arm(arm)
        refuse_if(result > 1, -22)
        refuse_if(len(self.trials) == 40, -28)
        self.trials.append((arm, result))
        return [len(self.trials)]

    def undo(self):
        refuse_if(not self.trials, -33)
        arm, result = self.trials.pop()
        return [len(self.trials), arm, result]

    def set_truth(self, truth):
        refuse_if(len(truth) != len(self.arms) or any(part > 1000 for part in truth), -22)
        return [0]

    def arm_info(self, arm):
        self.need_arm(arm)
        results = self.results(arm)
        return [*self.arms[arm], results.count(1), results.count(0)]

    def mean(self, arm):
        return self.index(arm, 0)

    def variance(self, arm):
        self.need_arm(arm)
        alpha, beta = self.pair(arm)
        mean = Fraction(alpha, alpha + beta)
        return [0] + pairs_of([mean * (1 - mean) / (alpha + beta + 1)])

    def exceed(self, arm, num, den):
        self.need_arm(arm)
        refuse_if(not 1 <= den <= 1000 or num > den, -22)
        return [0] + pairs_of([chance_above(self.pair(arm), Fraction(num, den))])

    def best_probability(self, arm):
        self.need_arm(arm)
        return [0] + pairs_of([self.best(arm)])

    def compare(self, first, second):
        self.need_arm(first)
        self.need_arm(second)
        refuse_if(first == second, -22)
        return [0] + pairs_of([chance_of_best(self.pair(first), (self.pair(second),))])

    def expected_max(self):
        refuse_if(not self.arms, -33)
        return [0] + pairs_of([greatest_of(tuple(sorted(self.pairs())))])

    def index(self, arm, bonus):
        self.need_arm(arm)
        refuse_if(bonus > 1000, -22)
        alpha, beta = self.pair(arm)
        return [0] + pairs_of([Fraction(alpha + bonus, alpha + beta + bonus)])

    def propensities(self, policy, parameter):
        refuse_if(policy > 5 or parameter > 1000, -22)
        refuse_if(not self.arms, -33)
        count = len(self.arms)
        if policy == 4:
            return [count] + pairs_of([self.best(arm) for arm in range(count)])
        even = [Fraction(1, count)] * count
        if policy == 5:
            return [count] + pairs_of(even)
        share = Fraction(parameter, 1000) if policy == 2 else Fraction(0)
        chosen = self.chosen(policy, parameter)
        return [count] + pairs_of([share * even[arm] + (1 - share) * (arm == chosen) for arm in range(count)])

    def chosen(self, policy, parameter):
        arms = range(len(self.arms))
        if policy == 3:
            for arm in arms:
                if len(self.results(arm)) < parameter:
                    return arm
        bonus = parameter if policy == 1 else 0
        indexes = [Fraction(alpha + bonus, alpha + beta + bonus) for alpha, beta in self.pairs()]
        return indexes.index(max(indexes))


def expected(*calls):
    """What the model answers to the calls, as `ask` gives it back."""
    model = Model()
    return [model.answer(call) for call in calls]
