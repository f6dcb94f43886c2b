"""Probabilities and expected values by the distributions of one or several arms.

A polynomial is a list of weights here: of n + 1 weights, the one at j belongs to
x^j * (1 - x)^(n - j). In this form no weight of a distribution is negative, and
all of them are whole numbers.
"""

from armchoice.ratios import Ratio


def binomials(n):
    row = [1]
    for j in range(n):
        row.append(row[j] * (n - j) // (j + 1))
    return row


def factorials(n):
    row = [1]
    for j in range(n):
        row.append(row[j] * (j + 1))
    return row


def powers(base, n):
    row = [1]
    for j in range(n):
        row.append(row[j] * base)
    return row


# The probability that the arm's probability of success is at most x.
def distribution(arm):
    row = binomials(arm.alpha + arm.beta - 1)
    return [0] * arm.alpha + row[arm.alpha:]


# The derivative of the distribution: all but one of its weights cancel out.
def density(arm):
    row = binomials(arm.alpha + arm.beta - 1)
    return [0] * (arm.alpha - 1) + [arm.alpha * row[arm.alpha]] + [0] * (arm.beta - 1)


def product(left, right):
    weights = [0] * (len(left) + len(right) - 1)
    for i, factor in enumerate(left):
        # Most weights of a density, and many of a distribution, are 0.
        if factor != 0:
            for j, weight in enumerate(right):
                weights[i + j] += factor * weight
    return weights


# From 0 to 1, the integral of x^j * (1 - x)^(n - j) is j! * (n - j)! / (n + 1)!.
def integral_parts(weights):
    n = len(weights) - 1
    row = factorials(n)
    parts = 0
    for j, weight in enumerate(weights):
        parts += weight * row[j] * row[n - j]
    return parts


def integral(weights):
    n = len(weights) - 1
    return Ratio(integral_parts(weights), factorials(n + 1)[n + 1])


def distribution_of_greatest(arms):
    weights = [1]
    for arm in arms:
        weights = product(distribution(arm), weights)
    return weights


def probability_above(arm, num, den):
    n = arm.alpha + arm.beta - 1
    row = binomials(n)
    hits = powers(num, n)
    misses = powers(den - num, n)
    total = 0
    for j in range(arm.alpha):
        total += row[j] * hits[j] * misses[n - j]
    return Ratio(total, powers(den, n)[n])


def density_of_best(arms, place):
    others = arms[:place] + arms[place + 1:]
    return product(density(arms[place]), distribution_of_greatest(others))


def probability_of_best(arms, place):
    return integral(density_of_best(arms, place))


# The probabilities of being the best, as parts of the same whole: their sum.
def shares_of_best(arms):
    return [integral_parts(density_of_best(arms, place)) for place in range(len(arms))]


# The expected value of something between 0 and 1 is the integral of the probability that it is above x.
def expected_greatest(arms):
    below = distribution_of_greatest(arms)
    row = binomials(len(below) - 1)
    return integral([whole - weight for whole, weight in zip(row, below)])
