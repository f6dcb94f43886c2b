"""Exact fractions that are never negative."""


def greatest_common_divisor(first, second):
    while second != 0:
        rest = first % second
        first = second
        second = rest
    return first


# A ratio is in lowest terms from the beginning and isn't changed later.
# It has num and den, as numbers have a numerator and a denominator of their own.
class Ratio:

    def __init__(self, num, den):
        divisor = greatest_common_divisor(num, den)
        self.num = num // divisor
        self.den = den // divisor

    def exceeds(self, other):
        return self.num * other.den > other.num * self.den

    def plus(self, other):
        return Ratio(self.num * other.den + other.num * self.den, self.den * other.den)

    # The other one may not be the greater one.
    def minus(self, other):
        return Ratio(self.num * other.den - other.num * self.den, self.den * other.den)

    def times(self, other):
        return Ratio(self.num * other.num, self.den * other.den)
