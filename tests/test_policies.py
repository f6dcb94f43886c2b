"""The propensities of the six policies, for one, two and three arms."""

import unittest
from fractions import Fraction

from helper import PARAMETERS, ask, ask_last, bandit, expected, values

BANDITS = (
    bandit((1, 1)),
    bandit((20, 3), trials=((0, 0), (0, 1))),
    bandit((1, 1), (2, 1)),
    bandit((2, 2), (1, 1)),
    bandit((3, 5), (5, 3), trials=((0, 1), (0, 1), (1, 0), (1, 0))),
    bandit((1, 1), (1, 1), (1, 1)),
    bandit((1, 1), (3, 2), (20, 1), trials=((2, 0),) * 12 + ((0, 1), (1, 1))),
    bandit((2, 7), (3, 3), (19, 20), trials=((0, 1), (1, 0), (2, 1), (0, 1))),
)


class Case(unittest.TestCase):

    def check(self, before, rows):
        for policy, parameter, fractions in rows:
            found = values(ask_last(*before, ("propensities", policy, parameter)))
            self.assertEqual(found, [Fraction(fraction) for fraction in fractions], (before, policy, parameter))


class EveryPolicy(Case):

    def test_a_distribution_for_every_parameter(self):
        for before in BANDITS:
            calls = [("propensities", policy, parameter) for policy in range(6) for parameter in PARAMETERS]
            found = ask(*before, *calls)
            arms = sum(call[0] == "add_arm" for call in before)
            for call, answer in zip(calls, found[len(before):]):
                self.assertEqual(answer[0], arms, call)
                self.assertEqual(sum(values(answer)), 1, call)
                self.assertGreaterEqual(min(values(answer)), 0, call)
            self.assertEqual(found, expected(*before, *calls))

    def test_one_arm_is_always_chosen(self):
        for policy in range(6):
            for parameter in PARAMETERS:
                self.assertEqual(ask_last(*bandit((2, 9)), ("propensities", policy, parameter)), [1, 1, 1])


class Greedy(Case):

    def test_the_greatest_mean(self):
        self.check(bandit((1, 2), (2, 1)), ((0, 0, (0, 1)), (0, 1000, (0, 1))))
        self.check(bandit((2, 1), (1, 2)), ((0, 0, (1, 0)),))
        self.check(bandit((1, 2), (3, 1), (2, 1)), ((0, 0, (0, 1, 0)),))
        self.check(bandit((1, 2), (2, 1), (3, 1)), ((0, 7, (0, 0, 1)),))

    def test_ties_go_to_the_smaller_number(self):
        self.check(bandit((2, 2), (1, 1)), ((0, 0, (1, 0)),))
        self.check(bandit((1, 1), (2, 2), (3, 3)), ((0, 0, (1, 0, 0)),))
        self.check(bandit((1, 2), (2, 2), (3, 3)), ((0, 0, (0, 1, 0)),))
        self.check(bandit((3, 3), (1, 2), (2, 2)), ((0, 0, (1, 0, 0)),))

    def test_trials_count(self):
        self.check(bandit((1, 1), (1, 1), trials=((1, 1),)), ((0, 0, (0, 1)),))
        self.check(bandit((1, 1), (1, 1), trials=((0, 0),)), ((0, 0, (0, 1)),))
        self.check(bandit((1, 1), (1, 1), trials=((1, 1), (1, 0))), ((0, 0, (1, 0)),))

    def test_means_that_nearly_tie(self):
        # 39 of 79 and 20 of 40 differ by 1 in 158.
        self.check(bandit((20, 20), (20, 20), trials=((0, 1), (0, 0)) * 19 + ((0, 0),)), ((0, 0, (0, 1)),))
        self.check(bandit((20, 20), (20, 20), trials=((0, 1), (0, 0)) * 19 + ((0, 1),)), ((0, 0, (1, 0)),))


class Optimistic(Case):

    def test_the_parameter_is_the_bonus(self):
        # With the bonus, the indexes compare as 1 + bonus with (3 + bonus) / 2.
        self.check(bandit((3, 2), (1, 1)), ((1, 0, (1, 0)), (1, 1, (1, 0)), (1, 2, (0, 1)), (1, 1000, (0, 1))))
        self.check(bandit((1, 1), (3, 2)), ((1, 0, (0, 1)), (1, 1, (1, 0)), (1, 2, (1, 0))))
        self.check(bandit((2, 2), (3, 3), (1, 1)), ((1, 0, (1, 0, 0)), (1, 1, (0, 0, 1))))

    def test_a_great_bonus_looks_at_failures_alone(self):
        self.check(bandit((20, 3), (1, 2), (20, 4)), ((1, 1000, (0, 1, 0)), (1, 0, (1, 0, 0))))

    def test_ties_go_to_the_smaller_number(self):
        self.check(bandit((2, 3), (2, 3), (1, 3)), ((1, 500, (1, 0, 0)),))


class NowAndThenAtRandom(Case):

    def test_the_parameter_is_in_thousandths(self):
        third = Fraction(1, 3)
        self.check(bandit((1, 2), (2, 1)), (
            (2, 0, (0, 1)), (2, 1, ("1/2000", "1999/2000")), (2, 500, ("1/4", "3/4")),
            (2, 999, ("999/2000", "1001/2000")), (2, 1000, ("1/2", "1/2"))))
        self.check(bandit((1, 2), (2, 1), (1, 1)), (
            (2, 0, (0, 1, 0)), (2, 1, ("1/3000", "2998/3000", "1/3000")), (2, 500, ("1/6", "2/3", "1/6")),
            (2, 1000, (third, third, third))))


class FirstExplore(Case):

    def test_the_first_arm_with_fewer_trials(self):
        before = bandit((1, 9), (9, 1), (5, 5), trials=((0, 0), (0, 1), (1, 0), (2, 1), (2, 1)))
        self.check(before, (
            (3, 0, (0, 1, 0)), (3, 1, (0, 1, 0)), (3, 2, (0, 1, 0)), (3, 3, (1, 0, 0)), (3, 1000, (1, 0, 0))))

    def test_otherwise_the_greedy_arm(self):
        self.check(bandit((1, 1), (1, 1), (1, 9), trials=((0, 0), (1, 1), (2, 1))), (
            (3, 0, (0, 1, 0)), (3, 1, (0, 1, 0)), (3, 2, (1, 0, 0))))
        self.check(bandit((1, 2), (1, 1), (9, 1), trials=((0, 1), (1, 1))), ((3, 1, (0, 0, 1)), (3, 0, (0, 0, 1))))

    def test_ties_go_to_the_smaller_number(self):
        self.check(bandit((2, 2), (1, 1)), ((3, 0, (1, 0)), (3, 1, (1, 0))))

    def test_parameters_of_an_arm_are_no_trials(self):
        self.check(bandit((20, 20), (1, 2)), ((3, 1, (1, 0)), (3, 40, (1, 0))))

    def test_a_trial_that_is_taken_back_does_not_count(self):
        before = bandit((1, 3), (3, 1), trials=((0, 1), (1, 1))) + [("undo",)]
        self.check(before, ((3, 1, (0, 1)), (3, 2, (1, 0))))
        self.check(before + [("undo",)], ((3, 1, (1, 0)),))


class Matching(Case):

    def test_each_arm_by_its_probability_of_being_the_best(self):
        self.check(bandit((1, 1), (2, 1), (3, 1)), ((4, 0, ("1/6", "1/3", "1/2")), (4, 1000, ("1/6", "1/3", "1/2"))))
        self.check(bandit((2, 1), (1, 2)), ((4, 5, ("5/6", "1/6")),))

    def test_as_best_probability_says(self):
        for before in BANDITS:
            arms = sum(call[0] == "add_arm" for call in before)
            found = ask(*before, ("propensities", 4, 0), *[("best_probability", arm) for arm in range(arms)])
            numbers = [number for answer in found[len(before) + 1:] for number in answer[1:]]
            self.assertEqual(found[len(before)], [arms] + numbers)


class AtRandom(Case):

    def test_every_arm_alike(self):
        third = Fraction(1, 3)
        for parameter in PARAMETERS:
            self.check(bandit((1, 20), (20, 1)), ((5, parameter, ("1/2", "1/2")),))
            self.check(bandit((1, 20), (20, 1), (3, 3), trials=((1, 1),)), ((5, parameter, (third, third, third)),))


if __name__ == "__main__":
    unittest.main()
