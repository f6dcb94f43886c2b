"""The requirements 1, 2, 5 (of the mean), 6 and 7 of DOC.md, and long lists of calls against the model."""

import unittest
from math import gcd

from helper import GREATEST, PARAMETERS, Numbers, ask, bandit, expected, fractions_in, value, values

KINDS = ("add_arm", "record", "record", "record", "undo", "set_truth", "arm_info", "mean", "variance", "exceed",
         "best_probability", "compare", "expected_max", "index", "propensities", "propensities")


def some_arms(numbers, count):
    return [(1 + numbers.below(20), 1 + numbers.below(20)) for place in range(count)]


def some_trials(numbers, arms, most):
    return tuple((numbers.below(arms), numbers.below(2)) for place in range(numbers.below(most + 1)))


def some_bandits(seed, most_trials=40):
    """Bandits with one, two and three arms and several trials, ties of equal arms among them."""
    numbers = Numbers(seed)
    for count in (1, 2, 3) * 6:
        arms = some_arms(numbers, count)
        if numbers.below(3) == 0:
            arms = [arms[0]] * count
        yield count, bandit(*arms, trials=some_trials(numbers, count, most_trials))


def some_call(numbers):
    """A call whose arguments are often right, often just past an edge, and now and then far away."""
    name = numbers.one_of(KINDS)
    arm = numbers.one_of((0, 0, 1, 1, 2, 3, GREATEST))
    thousandths = numbers.one_of((0, 1, 500, 999, 1000, 1001, numbers.below(1000), GREATEST))
    if name == "add_arm":
        return (name, numbers.one_of((0, 1, 2, 3, 20, 21)), numbers.one_of((1, 2, 3, 5, 20, 21)))
    if name == "record":
        return (name, arm, numbers.one_of((0, 0, 1, 1, 2)))
    if name == "set_truth":
        return (name, [numbers.one_of((0, 1000, 600, thousandths)) for place in range(numbers.below(4))])
    if name == "exceed":
        den = numbers.one_of((0, 1, 2, 7, 1000, 1001))
        return (name, arm, numbers.one_of((0, 1, den, den + 1)), den)
    if name == "compare":
        return (name, arm, numbers.one_of((0, 1, 2, 3)))
    if name == "index":
        return (name, arm, thousandths)
    if name == "propensities":
        return (name, numbers.one_of((0, 1, 2, 3, 4, 5, 6)), numbers.one_of((0, 1, 2, 5, thousandths)))
    if name in ("undo", "expected_max"):
        return (name,)
    return (name, arm)


def some_request(seed):
    numbers = Numbers(seed)
    calls = [] if numbers.below(10) == 0 else bandit(*some_arms(numbers, numbers.below(4)))
    while len(calls) < 59:
        calls.append(("create",) if numbers.below(80) == 0 else some_call(numbers))
    return calls


def questions(count):
    """Calls whose answers show the state, the trials in their order among them; they take all trials back."""
    calls = []
    for arm in range(count):
        calls += [("arm_info", arm), ("mean", arm), ("best_probability", arm)]
    calls += [("expected_max",), ("propensities", 0, 0), ("propensities", 3, 2), ("propensities", 4, 0)]
    return calls + [("undo",)] * 6 + [("arm_info", count)]


class Requirement1(unittest.TestCase):

    def test_the_probabilities_of_being_the_best_add_up_to_1(self):
        for count, before in some_bandits(1):
            found = ask(*before, *[("best_probability", arm) for arm in range(count)])
            parts = [value(answer) for answer in found[-count:]]
            self.assertEqual(sum(parts), 1, before)
            self.assertGreater(min(parts), 0, before)

    def test_compare_both_ways_adds_up_to_1(self):
        for count, before in some_bandits(2):
            if count > 1:
                found = ask(*before, ("compare", 0, count - 1), ("compare", count - 1, 0))
                self.assertEqual(value(found[-2]) + value(found[-1]), 1, before)

    def test_of_two_arms_compare_is_the_probability_of_being_the_best(self):
        for count, before in some_bandits(3):
            if count == 2:
                found = ask(*before, ("compare", 0, 1), ("best_probability", 0))
                self.assertEqual(found[-2], found[-1], before)

    def test_there_is_no_probability_without_an_arm(self):
        self.assertEqual(ask(("create",), ("best_probability", 0), ("propensities", 4, 0)), [[0], [-2], [-33]])


class Requirement2(unittest.TestCase):

    def test_propensities_are_a_distribution(self):
        for count, before in some_bandits(4, most_trials=26):
            calls = [("propensities", policy, parameter) for policy in range(6) for parameter in PARAMETERS]
            for call, answer in zip(calls, ask(*before, *calls)[len(before):]):
                parts = values(answer)
                self.assertEqual(len(parts), count, (before, call))
                self.assertEqual(sum(parts), 1, (before, call))
                self.assertGreaterEqual(min(parts), 0, (before, call))


class Requirement5(unittest.TestCase):

    def test_the_mean_after_a_trial_is_on_the_average_the_mean_before(self):
        for count, before in some_bandits(5, most_trials=39):
            for arm in range(count):
                found = ask(*before, ("mean", arm), ("record", arm, 1), ("mean", arm), ("undo",),
                            ("record", arm, 0), ("mean", arm))
                mean, better, worse = value(found[-6]), value(found[-4]), value(found[-1])
                self.assertEqual(mean * better + (1 - mean) * worse, mean, (before, arm))
                self.assertTrue(worse < mean < better, (before, arm))

    def test_a_trial_leaves_the_other_means_as_they_are(self):
        before = bandit((1, 2), (3, 4), (5, 6))
        found = ask(*before, ("record", 1, 1), ("mean", 0), ("mean", 1), ("mean", 2))
        self.assertEqual(found[-3:], [[0, 1, 3], [0, 1, 2], [0, 5, 11]])


class Requirement6(unittest.TestCase):

    def check_counts(self, arms, trials, undone):
        calls = bandit(*arms, trials=trials) + [("undo",)] * undone
        calls += [("arm_info", arm) for arm in range(len(arms))]
        left = trials[:len(trials) - undone]
        wanted = [[*arms[arm], left.count((arm, 1)), left.count((arm, 0))] for arm in range(len(arms))]
        self.assertEqual(ask(*calls)[-len(arms):], wanted, (arms, trials, undone))

    def test_the_trials_determine_successes_and_failures(self):
        numbers = Numbers(6)
        for count in (1, 2, 3) * 6:
            arms = some_arms(numbers, count)
            trials = some_trials(numbers, count, 40)
            self.check_counts(arms, trials, 0)
            self.check_counts(arms, trials, numbers.below(min(len(trials), 12) + 1))

    def test_record_and_undo_in_turns(self):
        calls = bandit((1, 1), (1, 1)) + [
            ("record", 0, 1), ("undo",), ("record", 1, 0), ("record", 0, 0), ("undo",), ("record", 1, 1),
            ("arm_info", 0), ("arm_info", 1), ("undo",), ("undo",), ("undo",)]
        self.assertEqual(ask(*calls)[3:], [
            [1], [0, 0, 1], [1], [2], [1, 0, 0], [2], [1, 1, 0, 0], [1, 1, 1, 1], [1, 1, 1], [0, 1, 0], [-33]])

    def test_trials_in_another_order_make_the_same_arms(self):
        trials = ((0, 1), (1, 0), (0, 0), (0, 1), (1, 1))
        found = [ask(*bandit((2, 3), (3, 2), trials=order), *questions(2)[:10])[-10:]
                 for order in (trials, trials[::-1], tuple(sorted(trials)))]
        self.assertEqual(found[0], found[1])
        self.assertEqual(found[0], found[2])


class Requirement7(unittest.TestCase):

    def check(self, before, count, failing):
        """After each failing call, everything that is asked is answered as if it had not been there."""
        asked = questions(count)
        wanted = ask(*before, *asked)[len(before):]
        for call, code in failing:
            found = ask(*before, call, *asked)
            self.assertEqual(found[len(before)], [code], call)
            self.assertEqual(found[len(before) + 1:], wanted, call)

    def failing(self, count):
        """A failing call of every sort, for a bandit with so many arms."""
        past = [(name, arm) for arm in (count, GREATEST)
                for name in ("arm_info", "mean", "variance", "best_probability")]
        calls = [(call, -2) for call in past]
        calls += [(("record", count, 1), -2), (("record", count, 2), -2), (("exceed", count, 1, 2), -2),
                  (("compare", count, 0), -2), (("compare", count, count), -2), (("index", count, 1), -2)]
        calls += [(("add_arm", 0, 1), -22), (("add_arm", 1, 0), -22), (("add_arm", 21, 1), -22),
                  (("add_arm", 1, 21), -22), (("set_truth", [1] * (3 - count) + [1001] * count), -22),
                  (("propensities", 6, 0), -22), (("propensities", 0, 1001), -22)]
        return calls

    def failing_with_an_arm(self, count):
        return self.failing(count) + [
            (("record", 0, 2), -22), (("record", count - 1, GREATEST), -22), (("set_truth", []), -22),
            (("set_truth", [1] * (count - 1) + [1001]), -22), (("set_truth", [1001] + [1] * (count - 1)), -22),
            (("exceed", 0, 2, 1), -22), (("exceed", 0, 0, 0), -22), (("exceed", 0, 0, 1001), -22),
            (("compare", 0, 0), -22), (("compare", 0, count), -2), (("index", 0, 1001), -22)]

    def test_without_arms(self):
        self.check(bandit(), 0, self.failing(0) + [
            (("undo",), -33), (("expected_max",), -33), (("propensities", 0, 0), -33), (("set_truth", [1]), -22)])

    def test_with_arms_and_without_trials(self):
        for arms in (((1, 1),), ((2, 1), (1, 3)), ((1, 2), (2, 2), (20, 20))):
            count = len(arms)
            self.check(bandit(*arms), count, self.failing_with_an_arm(count) + [(("undo",), -33)])

    def test_with_arms_and_trials(self):
        for arms in (((1, 1),), ((2, 1), (1, 3)), ((1, 2), (2, 2), (20, 20))):
            count = len(arms)
            trials = tuple((place % count, place % 2) for place in range(5))
            self.check(bandit(*arms, trials=trials), count, self.failing_with_an_arm(count))

    def test_with_assumed_probabilities(self):
        before = bandit((1, 2), (3, 4), trials=((1, 1),)) + [("set_truth", [300, 400])]
        self.check(before, 2, self.failing_with_an_arm(2))

    def test_with_three_arms_and_forty_trials(self):
        trials = tuple((place % 3, place % 2) for place in range(40))
        before = bandit((1, 2), (2, 1), (5, 5), trials=trials)
        asked = [("arm_info", 0), ("arm_info", 1), ("arm_info", 2), ("undo",), ("undo",), ("undo",)]
        wanted = ask(*before, *asked)[-6:]
        for call, code in ((("add_arm", 1, 1), -28), (("add_arm", 21, 1), -22), (("record", 0, 1), -28),
                           (("record", 3, 1), -2), (("record", 0, 2), -22)):
            found = ask(*before, call, *asked)
            self.assertEqual(found[-7:], [[code]] + wanted, call)

    def test_without_a_bandit(self):
        found = ask(("add_arm", 1, 1), ("record", 0, 1), ("set_truth", [1]), ("undo",), ("create",), ("arm_info", 0),
                    ("undo",), ("expected_max",))
        self.assertEqual(found, [[-11]] * 4 + [[0], [-2], [-33], [-33]])


class Questions(unittest.TestCase):

    def test_questions_change_nothing(self):
        for count, before in some_bandits(7, most_trials=6):
            calls = [("variance", 0), ("exceed", 0, 1, 3), ("index", 0, 9), ("propensities", 2, 77)]
            calls += [("compare", 0, 1), ("propensities", 1, 4)] + [call for call in questions(count) if call[0] != "undo"]
            asked = questions(count)
            self.assertEqual(ask(*before, *calls, *asked)[-len(asked):], ask(*before, *asked)[-len(asked):], before)


class Model(unittest.TestCase):

    def test_long_lists_of_calls(self):
        codes = set()
        for seed in range(150):
            calls = some_request(seed)
            found = ask(*calls)
            for call, answer, wanted in zip(calls, found, expected(*calls)):
                self.assertEqual(answer, wanted, (seed, call))
                codes.add((call[0], min(answer[0], 0)))
                for numerator, denominator in fractions_in(call, answer):
                    self.assertEqual(gcd(numerator, denominator), 1, (seed, call))
        wanted = {"add_arm": (-22, -28), "record": (-2, -22), "undo": (-33,), "set_truth": (-22,),
                  "exceed": (-2, -22), "compare": (-2, -22), "index": (-2, -22), "propensities": (-22, -33)}
        for name, some in wanted.items():
            for code in (0, -11) + some:
                self.assertIn((name, code), codes)

    def test_many_trials(self):
        for count, before in some_bandits(8):
            calls = [(name, arm) for arm in range(count) for name in ("mean", "variance", "best_probability")]
            calls += [("exceed", 0, 333, 1000), ("expected_max",), ("propensities", 1, 3), ("compare", count - 1, 0)]
            self.assertEqual(ask(*before, *calls), expected(*before, *calls), before)


if __name__ == "__main__":
    unittest.main()
