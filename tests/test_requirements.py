"""The requirements 1, 2, 6 and 7 of DOC.md, and long lists of calls against the model."""

import unittest
from math import gcd

from helper import (GREATEST, NAMES, PARAMETERS, Numbers, ask, bandit, expected, fractions_in, some_arms, some_bandits,
                    some_trials, value, values)

KINDS = NAMES[1:] + ("record", "record", "propensities", "set_truth", "set_truth", "run")
# The calls with a policy and steps, and what is handed in behind these.
NAMED = (("policy_value", ()), ("expected_reward", ()), ("regret", ()), ("expected_pulls", ()), ("simulate", (9,)),
         ("run", (9,)))
# Calls that leave a bandit as it is.
NEW_QUESTIONS = (
    ("draw", 4, 0, 7), ("optimal", 3), ("choice_value", 1, 4), ("policy_value", 2, 300, 3), ("expected_reward", 4, 0, 2),
    ("regret", 0, 0, 3), ("expected_pulls", 5, 0, 2), ("information", 0), ("eliminate", 500),
    ("simulate", 3, 2, 5, 9), ("run", 5, 0, 0, 9), ("run", 5, 0, 6, 9), ("history",), ("status",))


def some_call(numbers):
    """A call whose arguments are often right, often just past an edge, and now and then far away."""
    name = numbers.one_of(KINDS)
    arm = numbers.one_of((0, 0, 1, 1, 2, 3, GREATEST))
    thousandths = numbers.one_of((0, 1, 500, 999, 1000, 1001, numbers.below(1000), GREATEST))
    if name == "add_arm":
        return (name, numbers.one_of((0, 1, 2, 3, 20, 21)), numbers.one_of((1, 2, 3, 5, 20, 21)))
    if name == "record":
        return (name, arm, numbers.one_of((0, 0, 1, 1, 2)))
    if name == "set_truth":
        return (name, [numbers.one_of((0, 1000, 600, thousandths)) for place in range(numbers.below(4))])
    if name == "exceed":
        den = numbers.one_of((0, 1, 2, 7, 1000, 1001))
        return (name, arm, numbers.one_of((0, 1, den, den + 1)), den)
    if name == "compare":
        return (name, arm, numbers.one_of((0, 1, 2, 3)))
    if name == "index":
        return (name, arm, thousandths)
    if name == "propensities":
        return (name, numbers.one_of((0, 1, 2, 3, 4, 5, 6)), numbers.one_of((0, 1, 2, 5, thousandths)))
    if name in ("undo", "expected_max", "history", "status"):
        return (name,)
    if NAMES.index(name) >= NAMES.index("draw"):
        return some_new_call(numbers, name, arm, thousandths)
    return (name, arm)


def some_new_call(numbers, name, arm, thousandths):
    steps = numbers.one_of((0, 1, 2, 3, 3, 4, 5, 6))
    policy = (numbers.one_of((0, 1, 2, 3, 4, 5, 0, 1, 2, 3, 4, 5, 6)), numbers.one_of((0, 1, 2, 5, thousandths)))
    if name == "draw":
        return (name, *policy, some_seed(numbers))
    if name == "optimal":
        return (name, steps)
    if name == "choice_value":
        return (name, arm, steps)
    if name in ("simulate", "run"):
        return (name, *policy, steps, some_seed(numbers))
    if name in ("information", "eliminate"):
        return (name, arm if name == "information" else thousandths)
    return (name, *policy, steps)


def some_seed(numbers):
    return numbers.one_of((0, 1, GREATEST, numbers.below(2 ** 31)))


def some_request(seed):
    numbers = Numbers(seed)
    calls = [] if numbers.below(10) == 0 else bandit(*some_arms(numbers, numbers.below(4)))
    if numbers.below(2) == 0:
        calls.append(("set_truth", [numbers.below(1001) for call in calls[1:]]))
    while len(calls) < 59:
        calls.append(("create",) if numbers.below(80) == 0 else some_call(numbers))
    return calls


def questions(count):
    """Calls whose answers show the state, the trials in their order among them; they take all trials back."""
    calls = []
    for arm in range(count):
        calls += [("arm_info", arm), ("mean", arm), ("best_probability", arm)]
    calls += [("expected_max",), ("propensities", 0, 0), ("propensities", 3, 2), ("propensities", 4, 0)]
    calls += [("history",), ("status",), ("expected_reward", 5, 0, 1), ("regret", 5, 0, 1), ("run", 5, 0, 0, 1)]
    return calls + [("undo",)] * 6 + [("arm_info", count)]


class Requirement1(unittest.TestCase):

    def test_the_probabilities_of_being_the_best_add_up_to_1(self):
        for count, before in some_bandits(1):
            found = ask(*before, *[("best_probability", arm) for arm in range(count)])
            parts = [value(answer) for answer in found[-count:]]
            self.assertEqual(sum(parts), 1, before)
            self.assertGreater(min(parts), 0, before)

    def test_compare_both_ways_adds_up_to_1(self):
        for count, before in some_bandits(2):
            if count > 1:
                found = ask(*before, ("compare", 0, count - 1), ("compare", count - 1, 0))
                self.assertEqual(value(found[-2]) + value(found[-1]), 1, before)

    def test_of_two_arms_compare_is_the_probability_of_being_the_best(self):
        for count, before in some_bandits(3):
            if count == 2:
                found = ask(*before, ("compare", 0, 1), ("best_probability", 0))
                self.assertEqual(found[-2], found[-1], before)

    def test_there_is_no_probability_without_an_arm(self):
        self.assertEqual(ask(("create",), ("best_probability", 0), ("propensities", 4, 0)), [[0], [-2], [-33]])


class Requirement2(unittest.TestCase):

    def test_propensities_are_a_distribution(self):
        for count, before in some_bandits(4, most_trials=26):
            calls = [("propensities", policy, parameter) for policy in range(6) for parameter in PARAMETERS]
            for call, answer in zip(calls, ask(*before, *calls)[len(before):]):
                parts = values(answer)
                self.assertEqual(len(parts), count, (before, call))
                self.assertEqual(sum(parts), 1, (before, call))
                self.assertGreaterEqual(min(parts), 0, (before, call))


class Requirement6(unittest.TestCase):

    def check_counts(self, arms, trials, undone):
        calls = bandit(*arms, trials=trials) + [("undo",)] * undone
        calls += [("arm_info", arm) for arm in range(len(arms))]
        left = trials[:len(trials) - undone]
        wanted = [[*arms[arm], left.count((arm, 1)), left.count((arm, 0))] for arm in range(len(arms))]
        self.assertEqual(ask(*calls)[-len(arms):], wanted, (arms, trials, undone))

    def test_the_trials_determine_successes_and_failures(self):
        numbers = Numbers(6)
        for count in (1, 2, 3) * 6:
            arms = some_arms(numbers, count)
            trials = some_trials(numbers, count, 40)
            self.check_counts(arms, trials, 0)
            self.check_counts(arms, trials, numbers.below(min(len(trials), 12) + 1))

    def check_run(self, arms, trials, rest):
        """After a run, successes and failures are those of the trials before and of the simulation."""
        before = bandit(*arms, trials=trials) + [("set_truth", [300, 500, 700][:len(arms)])]
        asked = [("arm_info", arm) for arm in range(len(arms))] + [("history",), ("status",)]
        found = ask(*before, ("simulate", *rest), ("run", *rest), *asked)[len(before):]
        simulated = tuple(zip(found[0][2::2], found[0][3::2]))
        self.assertEqual(len(simulated), rest[2], (before, rest))
        self.assertEqual(found[1], found[0][:2], (before, rest))
        whole = trials + simulated
        wanted = [[*arms[arm], whole.count((arm, 1)), whole.count((arm, 0))] for arm in range(len(arms))]
        wanted.append([len(whole)] + [number for trial in whole for number in trial])
        wanted.append([len(arms), len(whole), sum(result for arm, result in whole), 1])
        self.assertEqual(found[2:], wanted, (before, rest))

    def test_the_trials_of_a_run_do_so_too(self):
        numbers = Numbers(66)
        for count in (1, 2, 3) * 6:
            arms = some_arms(numbers, count)
            for policy in range(6):
                rest = (policy, numbers.one_of(PARAMETERS), numbers.below(4 if policy == 4 else 6), some_seed(numbers))
                self.check_run(arms, some_trials(numbers, count, 20), rest)

    def test_runs_records_and_undos_in_turns(self):
        calls = bandit((1, 1), (1, 1)) + [
            ("set_truth", [1000, 0]), ("run", 3, 1, 2, 5), ("record", 1, 1), ("undo",), ("undo",), ("history",),
            ("arm_info", 0), ("arm_info", 1), ("run", 3, 2, 3, 5), ("history",), ("arm_info", 0), ("arm_info", 1)]
        found = ask(*calls)[4:]
        self.assertEqual([found[0][1]] + found[1:7], [1, [3], [2, 1, 1], [1, 1, 0], [1, 0, 1], [1, 1, 1, 0], [1, 1, 0, 0]])
        self.assertEqual(found[8:], [[4, 0, 1, 0, 1, 1, 0, 1, 0], [1, 1, 2, 0], [1, 1, 0, 2]])

    def test_record_and_undo_in_turns(self):
        calls = bandit((1, 1), (1, 1)) + [
            ("record", 0, 1), ("undo",), ("record", 1, 0), ("record", 0, 0), ("undo",), ("record", 1, 1),
            ("arm_info", 0), ("arm_info", 1), ("undo",), ("undo",), ("undo",)]
        self.assertEqual(ask(*calls)[3:], [
            [1], [0, 0, 1], [1], [2], [1, 0, 0], [2], [1, 1, 0, 0], [1, 1, 1, 1], [1, 1, 1], [0, 1, 0], [-33]])

    def test_trials_in_another_order_make_the_same_arms(self):
        trials = ((0, 1), (1, 0), (0, 0), (0, 1), (1, 1))
        calls = [call for call in questions(2)[:10] if call[0] != "history"] + [("policy_value", 4, 0, 3), ("optimal", 5)]
        found = [ask(*bandit((2, 3), (3, 2), trials=order), *calls)[-len(calls):]
                 for order in (trials, trials[::-1], tuple(sorted(trials)))]
        self.assertEqual(found[0], found[1])
        self.assertEqual(found[0], found[2])


class Requirement7(unittest.TestCase):

    def check(self, before, count, failing):
        """After each failing call, everything that is asked is answered as if it had not been there."""
        asked = questions(count)
        wanted = ask(*before, *asked)[len(before):]
        for call, code in failing:
            found = ask(*before, call, *asked)
            self.assertEqual(found[len(before)], [code], call)
            self.assertEqual(found[len(before) + 1:], wanted, call)

    def failing(self, count):
        """A failing call of every sort, for a bandit with so many arms."""
        past = [(name, arm) for arm in (count, GREATEST)
                for name in ("arm_info", "mean", "variance", "best_probability", "information")]
        calls = [(call, -2) for call in past]
        calls += [(("record", count, 1), -2), (("record", count, 2), -2), (("exceed", count, 1, 2), -2),
                  (("compare", count, 0), -2), (("compare", count, count), -2), (("index", count, 1), -2)]
        calls += [(("add_arm", 0, 1), -22), (("add_arm", 1, 0), -22), (("add_arm", 21, 1), -22),
                  (("add_arm", 1, 21), -22), (("set_truth", [1] * (3 - count) + [1001] * count), -22),
                  (("propensities", 6, 0), -22), (("propensities", 0, 1001), -22),
                  (("draw", 6, 0, 1), -22), (("draw", 5, 1001, 1), -22), (("optimal", 6), -22),
                  (("choice_value", count, 1), -2), (("choice_value", GREATEST, 0), -2), (("eliminate", 1001), -22)]
        for name, rest in NAMED:
            calls += [((name, 6, 0, 1, *rest), -22), ((name, 0, 1001, 1, *rest), -22), ((name, 0, 0, 6, *rest), -22),
                      ((name, 4, 0, 4, *rest), -22)]
        return calls

    def failing_with_an_arm(self, count):
        return self.failing(count) + [
            (("record", 0, 2), -22), (("record", count - 1, GREATEST), -22), (("set_truth", []), -22),
            (("set_truth", [1] * (count - 1) + [1001]), -22), (("set_truth", [1001] + [1] * (count - 1)), -22),
            (("exceed", 0, 2, 1), -22), (("exceed", 0, 0, 0), -22), (("exceed", 0, 0, 1001), -22),
            (("compare", 0, 0), -22), (("compare", 0, count), -2), (("index", 0, 1001), -22),
            (("choice_value", 0, 0), -22), (("choice_value", count - 1, 6), -22)]

    def failing_without_truth(self):
        return [((name, 5, 0, 2, *rest), -16) for name, rest in NAMED[1:]]

    def test_without_arms(self):
        self.check(bandit(), 0, self.failing(0) + [
            (("undo",), -33), (("expected_max",), -33), (("propensities", 0, 0), -33), (("set_truth", [1]), -22),
            (("draw", 0, 0, 0), -33), (("optimal", 1), -33)] + [((name, 5, 0, 2, *rest), -33) for name, rest in NAMED])

    def test_with_arms_and_without_trials(self):
        for arms in (((1, 1),), ((2, 1), (1, 3)), ((1, 2), (2, 2), (20, 20))):
            count = len(arms)
            self.check(bandit(*arms), count,
                       self.failing_with_an_arm(count) + self.failing_without_truth() + [(("undo",), -33)])

    def test_with_arms_and_trials(self):
        for arms in (((1, 1),), ((2, 1), (1, 3)), ((1, 2), (2, 2), (20, 20))):
            count = len(arms)
            trials = tuple((place % count, place % 2) for place in range(5))
            self.check(bandit(*arms, trials=trials), count,
                       self.failing_with_an_arm(count) + self.failing_without_truth())

    def test_with_assumed_probabilities(self):
        before = bandit((1, 2), (3, 4), trials=((1, 1),)) + [("set_truth", [300, 400])]
        self.check(before, 2, self.failing_with_an_arm(2))

    def test_with_three_arms_and_forty_trials(self):
        trials = tuple((place % 3, place % 2) for place in range(40))
        before = bandit((1, 2), (2, 1), (5, 5), trials=trials) + [("set_truth", [10, 20, 30])]
        asked = [("arm_info", 0), ("arm_info", 1), ("arm_info", 2), ("history",), ("status",), ("regret", 5, 0, 1),
                 ("undo",), ("undo",), ("undo",)]
        wanted = ask(*before, *asked)[-len(asked):]
        for call, code in ((("add_arm", 1, 1), -28), (("add_arm", 21, 1), -22), (("record", 0, 1), -28),
                           (("record", 3, 1), -2), (("record", 0, 2), -22), (("run", 5, 0, 1, 8), -28),
                           (("run", 4, 0, 3, 8), -28), (("run", 0, 0, 5, 8), -28), (("run", 0, 0, 6, 8), -22)):
            found = ask(*before, call, *asked)
            self.assertEqual(found[-len(asked) - 1:], [[code]] + wanted, call)

    def test_a_run_that_fits_only_in_part_records_nothing(self):
        before = bandit((1, 1), trials=((0, 1),) * 38) + [("set_truth", [500])]
        found = ask(*before, ("run", 0, 0, 3, 8), ("status",), ("run", 0, 0, 2, 8), ("run", 0, 0, 1, 8))
        self.assertEqual(found[-4:-2], [[-28], [1, 38, 38, 1]])
        self.assertEqual(found[-1], [-28])

    def test_without_a_bandit(self):
        found = ask(("add_arm", 1, 1), ("record", 0, 1), ("set_truth", [1]), ("undo",), ("create",), ("arm_info", 0),
                    ("undo",), ("expected_max",))
        self.assertEqual(found, [[-11]] * 4 + [[0], [-2], [-33], [-33]])


class Questions(unittest.TestCase):

    def test_questions_change_nothing(self):
        for count, before in some_bandits(7, most_trials=6):
            calls = [("variance", 0), ("exceed", 0, 1, 3), ("index", 0, 9), ("propensities", 2, 77)]
            calls += [("compare", 0, 1), ("propensities", 1, 4)]
            asked = questions(count)
            wanted = ask(*before, *asked)[-len(asked):]
            for some in (calls, list(NEW_QUESTIONS), [call for call in asked if call[0] != "undo"]):
                self.assertEqual(ask(*before, *some, *asked)[-len(asked):], wanted, before)

    def test_the_first_calls_answer_the_same_between_the_others(self):
        calls = bandit((2, 3), (3, 2), trials=((0, 1), (1, 0))) + [
            ("set_truth", [100, 900]), ("arm_info", 0), ("mean", 1), ("variance", 0), ("exceed", 1, 2, 3),
            ("best_probability", 0), ("compare", 1, 0), ("expected_max",), ("index", 0, 3), ("propensities", 4, 0),
            ("propensities", 3, 2), ("undo",), ("mean", 1), ("record", 1, 1), ("arm_info", 1), ("set_truth", [1]),
            ("undo",), ("undo",), ("undo",), ("add_arm", 4, 4), ("propensities", 2, 100), ("best_probability", 2),
            ("create",), ("add_arm", 1, 1), ("mean", 0)]
        self.assertEqual(len(calls), 30)
        alone = ask(*calls)
        self.assertEqual(alone, expected(*calls))
        for new in NEW_QUESTIONS:
            mixed = [call for old in calls for call in (old, new)]
            found = ask(*mixed)
            self.assertEqual(found[::2], alone, new)
            self.assertEqual(found, expected(*mixed), new)


class Model(unittest.TestCase):

    def test_long_lists_of_calls(self):
        codes = set()
        for seed in range(150):
            calls = some_request(seed)
            found = ask(*calls)
            for call, answer, wanted in zip(calls, found, expected(*calls)):
                self.assertEqual(answer, wanted, (seed, call))
                codes.add((call[0], min(answer[0], 0)))
                for numerator, denominator in fractions_in(call, answer):
                    self.assertEqual(gcd(numerator, denominator), 1, (seed, call))
        wanted = {"add_arm": (-22, -28), "record": (-2, -22), "undo": (-33,), "set_truth": (-22,),
                  "exceed": (-2, -22), "compare": (-2, -22), "index": (-2, -22), "propensities": (-22, -33),
                  "draw": (-22, -33), "optimal": (-22, -33), "choice_value": (-2, -22), "policy_value": (-22, -33),
                  "expected_reward": (-22, -33, -16), "regret": (-22, -33, -16), "expected_pulls": (-22, -33, -16),
                  "information": (-2,), "eliminate": (-22,), "simulate": (-22, -33, -16), "run": (-22, -33, -16),
                  "history": (), "status": ()}
        for name, some in wanted.items():
            for code in (0, -11) + some:
                self.assertIn((name, code), codes)

    def test_many_trials(self):
        for count, before in some_bandits(8):
            calls = [(name, arm) for arm in range(count) for name in ("mean", "variance", "best_probability")]
            calls += [("exceed", 0, 333, 1000), ("expected_max",), ("propensities", 1, 3), ("compare", count - 1, 0)]
            self.assertEqual(ask(*before, *calls), expected(*before, *calls), before)


if __name__ == "__main__":
    unittest.main()
