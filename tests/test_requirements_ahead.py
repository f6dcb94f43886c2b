"""The requirements 3, 4 and 5 of DOC.md, over many bandits."""

import unittest
from fractions import Fraction

from helper import Numbers, ask, bandit, expected, some_arms, some_bandits, value, values

PARAMETERS_OF = {0: (0,), 1: (1, 3, 1000), 2: (1, 500, 1000), 3: (1, 2, 15), 4: (0,), 5: (0,)}


def most_steps(policy):
    return 3 if policy == 4 else 5


def policies():
    return [(policy, parameter) for policy in range(6) for parameter in PARAMETERS_OF[policy]]


def some_truths(seed, count):
    """Several assumed probabilities for so many arms: equal ones, certain ones, and others."""
    numbers = Numbers(seed)
    truths = [[0] * count, [1000] * count, [1000, 0, 500][:count], [0, 1000, 1][:count]]
    return truths + [[numbers.below(1001) for arm in range(count)] for time in range(2)]


def assumed_bandits(seed, most_trials=20):
    for count, before in some_bandits(seed, most_trials):
        for truth in some_truths(seed, count):
            yield count, truth, before + [("set_truth", truth)]


class Requirement3(unittest.TestCase):

    def test_no_policy_is_better_than_the_optimal_value(self):
        for count, before in some_bandits(31, most_trials=25):
            for steps in (0, 1, 2, 3, 5):
                calls = [("policy_value", *policy, steps) for policy in policies() if steps <= most_steps(policy[0])]
                found = ask(*before, ("optimal", steps), *calls)[len(before):]
                best = value(found[0])
                for call, answer in zip(calls, found[1:]):
                    self.assertLessEqual(value(answer), best, (before, call))
                    self.assertGreaterEqual(value(answer), 0, (before, call))

    def test_nor_is_any_first_choice(self):
        for count, before in some_bandits(32):
            for steps in (1, 2, 5):
                found = ask(*before, ("optimal", steps), *[("choice_value", arm, steps) for arm in range(count)])
                found = [value(answer) for answer in found[len(before):]]
                self.assertEqual(found[0], max(found[1:]), (before, steps))

    def test_in_one_step_greedy_is_optimal(self):
        for count, before in some_bandits(33):
            found = ask(*before, ("optimal", 1), ("policy_value", 0, 0, 1), *[("mean", arm) for arm in range(count)])
            found = [value(answer) for answer in found[len(before):]]
            self.assertEqual(found[0], found[1], before)
            self.assertEqual(found[0], max(found[2:]), before)

    def test_more_steps_are_worth_at_least_the_greatest_mean_each(self):
        for count, before in some_bandits(34):
            found = [value(answer) for answer in ask(*before, *[("optimal", steps) for steps in range(6)])[len(before):]]
            self.assertEqual(found[0], 0)
            for steps in range(1, 6):
                self.assertGreaterEqual(found[steps] - found[steps - 1], found[1], before)
                self.assertLessEqual(found[steps], steps, before)


class Requirement4(unittest.TestCase):

    def check(self, before, truth, policy, steps):
        rest = (*policy, steps)
        found = ask(*before, ("regret", *rest), ("expected_pulls", *rest), ("expected_reward", *rest))[-3:]
        regret, pulls, reward = value(found[0]), values(found[1]), value(found[2])
        what = (before, rest)
        self.assertGreaterEqual(regret, 0, what)
        self.assertEqual(regret, sum(part * Fraction(max(truth) - one, 1000) for part, one in zip(pulls, truth)), what)
        self.assertEqual(regret + reward, steps * Fraction(max(truth), 1000), what)
        self.assertEqual(sum(pulls), steps, what)
        self.assertGreaterEqual(min(pulls), 0, what)
        self.assertEqual(len(pulls), len(truth), what)

    def test_regret_is_never_negative_and_the_sum_over_the_arms(self):
        numbers = Numbers(41)
        for count, truth, before in assumed_bandits(42):
            for policy in policies():
                self.check(before, truth, policy, numbers.below(most_steps(policy[0]) + 1))

    def test_with_the_greatest_steps(self):
        for count, truth, before in list(assumed_bandits(43))[::5]:
            for policy in policies():
                self.check(before, truth, policy, most_steps(policy[0]))

    def test_after_runs(self):
        for count, truth, before in list(assumed_bandits(44))[::4]:
            before = before + [("run", 5, 0, 4, 8), ("run", 4, 0, 3, 9)]
            for policy in policies()[::3]:
                self.check(before, truth, policy, 3)


class Requirement5(unittest.TestCase):

    def test_information_is_never_negative(self):
        for count, before in list(some_bandits(51)) + list(some_bandits(52, most_trials=4)):
            calls = [("information", arm) for arm in range(count)]
            for answer in ask(*before, *calls)[-count:]:
                self.assertGreaterEqual(value(answer), 0, before)
            self.assertEqual(ask(*before, *calls), expected(*before, *calls))

    def test_information_is_the_greatest_mean_after_a_trial(self):
        for count, before in some_bandits(53, most_trials=15):
            means = [("mean", arm) for arm in range(count)]
            for arm in range(count):
                found = ask(*before, ("information", arm), *means, ("record", arm, 1), *means, ("undo",),
                            ("record", arm, 0), *means)[len(before):]
                information = value(found[0])
                now = [value(answer) for answer in found[1:1 + count]]
                better = [value(answer) for answer in found[2 + count:2 + 2 * count]]
                worse = [value(answer) for answer in found[-count:]]
                after = now[arm] * max(better) + (1 - now[arm]) * max(worse)
                self.assertEqual(information, after - max(now), (before, arm))

    def test_the_mean_after_a_trial_is_on_the_average_the_mean_before(self):
        for count, before in some_bandits(5, most_trials=39):
            for arm in range(count):
                found = ask(*before, ("mean", arm), ("record", arm, 1), ("mean", arm), ("undo",),
                            ("record", arm, 0), ("mean", arm))
                mean, better, worse = value(found[-6]), value(found[-4]), value(found[-1])
                self.assertEqual(mean * better + (1 - mean) * worse, mean, (before, arm))
                self.assertTrue(worse < mean < better, (before, arm))

    def test_so_it_is_when_the_trial_is_one_of_a_run(self):
        numbers = Numbers(54)
        for count in (1, 2, 3) * 6:
            arms = some_arms(numbers, count)
            for arm in range(count):
                # First explore chooses this arm, as all others have as many trials as it asks for.
                before = bandit(*arms, trials=[(one, one % 2) for one in range(count) if one != arm])
                found = ask(*before, ("mean", arm), ("set_truth", [1000] * count), ("run", 3, 1, 1, 7), ("mean", arm),
                            ("undo",), ("set_truth", [0] * count), ("run", 3, 1, 1, 7), ("mean", arm), ("undo",))
                mean, better, worse = value(found[-9]), value(found[-6]), value(found[-2])
                self.assertEqual([found[-5][1:], found[-1][1:]], [[arm, 1], [arm, 0]], before)
                self.assertEqual(mean * better + (1 - mean) * worse, mean, (before, arm))

    def test_a_trial_leaves_the_other_means_as_they_are(self):
        before = bandit((1, 2), (3, 4), (5, 6))
        found = ask(*before, ("record", 1, 1), ("mean", 0), ("mean", 1), ("mean", 2))
        self.assertEqual(found[-3:], [[0, 1, 3], [0, 1, 2], [0, 5, 11]])


if __name__ == "__main__":
    unittest.main()
