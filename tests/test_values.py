"""The calls that look ahead: optimal to expected_pulls (15 to 20), and information (21)."""

import unittest
from fractions import Fraction

from helper import GREATEST, PARAMETERS, ask, ask_last, bandit, expected, value, values

EVEN = bandit((1, 1), (1, 1))
UNEVEN = bandit((1, 1), (2, 1))
# The arm with the smaller mean is worth a trial here.
HOPEFUL = bandit((1, 1), (11, 10))
THREE = bandit((1, 2), (3, 2), (2, 2), trials=((0, 1), (2, 0), (2, 1), (1, 1)))
ASSUMED = UNEVEN + [("set_truth", [600, 500])]
THREE_ASSUMED = THREE + [("set_truth", [350, 900, 875])]
WITH_TRUTH = ("expected_reward", "regret", "expected_pulls")
WITH_STEPS = ("policy_value",) + WITH_TRUTH
FAR = (6, 7, 4294967294, GREATEST)


def greatest_steps(policy):
    return 3 if policy == 4 else 5


def all_policies(*names):
    """Calls of these names with every policy and number of steps, and several parameters."""
    return [(name, policy, parameter, steps) for name in names for policy in range(6)
            for parameter in (0, 1, 2, 500, 1000) for steps in range(greatest_steps(policy) + 1)]


class Case(unittest.TestCase):

    def check(self, before, rows):
        """Each row's call comes behind the calls before, on an object of its own."""
        for call, answer in rows:
            self.assertEqual(ask_last(*before, call), answer, (before, call))

    def check_values(self, before, rows):
        """The same with fractions; of expected_pulls with one for each arm."""
        for call, wanted in rows:
            answer = ask_last(*before, call)
            if call[0] == "expected_pulls":
                self.assertEqual(values(answer), [Fraction(fraction) for fraction in wanted], (before, call))
            else:
                self.assertEqual(value(answer), Fraction(wanted), (before, call))

    def check_by_the_model(self, before, calls):
        for start in range(0, len(calls), 40):
            some = calls[start:start + 40]
            for call, answer, wanted in zip(some, ask(*before, *some)[-len(some):], expected(*before, *some)[-len(some):]):
                self.assertEqual(answer, wanted, (before, call))


class Optimal(Case):

    def test_one_step_is_worth_the_greatest_mean(self):
        self.check_values(UNEVEN, ((("optimal", 1), "2/3"),))
        self.check_values(HOPEFUL, ((("optimal", 1), "11/21"),))
        self.check_values(bandit((2, 1), (5, 1), (4, 1)), ((("optimal", 1), "5/6"),))

    def test_what_is_learned_counts(self):
        # After a success the same arm again (2/3), after a failure the other one (1/2).
        self.check_values(EVEN, ((("optimal", 2), "13/12"),))
        self.check_values(UNEVEN, ((("optimal", 2), "4/3"),))
        # The first arm first: 1/2 * (1 + 2/3) + 1/2 * 11/21.
        self.check_values(HOPEFUL, ((("optimal", 2), "23/21"),))

    def test_trials_count(self):
        self.check_values(EVEN + [("record", 1, 1)], ((("optimal", 1), "2/3"), (("optimal", 2), "4/3")))

    def test_edges(self):
        self.check(UNEVEN, ((("optimal", 0), [0, 0, 1]),))
        self.check(THREE, ((("optimal", 0), [0, 0, 1]),))
        for steps in range(6):
            # Of one arm, every step is worth its mean.
            self.check_values(bandit((2, 3)), ((("optimal", steps), Fraction(2 * steps, 5)),))
            self.check_values(bandit((20, 1), trials=((0, 1),) * 40), ((("optimal", steps), Fraction(60 * steps, 61)),))

    def test_by_the_model(self):
        for before in (EVEN, UNEVEN, HOPEFUL, THREE, bandit((20, 20), (19, 20), (1, 1)), bandit((1, 20), (20, 1))):
            self.check_by_the_model(before, [("optimal", steps) for steps in range(6)])

    def test_errors_in_their_order(self):
        for steps in FAR:
            self.check((), ((("optimal", steps), [-11]),))
            self.check(bandit(), ((("optimal", steps), [-22]),))
            self.check(UNEVEN, ((("optimal", steps), [-22]),))
        self.check(bandit(), ((("optimal", 0), [-33]), (("optimal", 1), [-33]), (("optimal", 5), [-33])))
        self.check((), ((("optimal", 0), [-11]),))


class ChoiceValue(Case):

    def test_one_step_is_worth_the_mean(self):
        self.check_values(UNEVEN, ((("choice_value", 0, 1), "1/2"), (("choice_value", 1, 1), "2/3")))

    def test_after_the_choice_the_best_is_done(self):
        self.check_values(UNEVEN, ((("choice_value", 0, 2), "7/6"), (("choice_value", 1, 2), "4/3")))
        self.check_values(HOPEFUL, ((("choice_value", 0, 2), "23/21"), (("choice_value", 1, 2), "22/21")))

    def test_the_greatest_one_is_the_optimal_value(self):
        for before, count in ((UNEVEN, 2), (HOPEFUL, 2), (THREE, 3)):
            for steps in range(1, 6):
                found = ask(*before, *[("choice_value", arm, steps) for arm in range(count)], ("optimal", steps))
                self.assertEqual(max(value(answer) for answer in found[-1 - count:-1]), value(found[-1]))

    def test_edges(self):
        for steps in range(1, 6):
            self.check_values(bandit((3, 4)), ((("choice_value", 0, steps), Fraction(3 * steps, 7)),))
        self.check(UNEVEN, ((("choice_value", 0, 0), [-22]), (("choice_value", 1, 0), [-22])))

    def test_by_the_model(self):
        for before, count in ((EVEN, 2), (HOPEFUL, 2), (THREE, 3), (bandit((1, 20), (20, 1), (20, 20)), 3)):
            self.check_by_the_model(before, [("choice_value", arm, steps) for arm in range(count)
                                             for steps in range(1, 6)])

    def test_errors_in_their_order(self):
        for steps in (0,) + FAR:
            self.check((), ((("choice_value", 0, steps), [-11]),))
            self.check(bandit(), ((("choice_value", 0, steps), [-2]),))
            self.check(UNEVEN, ((("choice_value", 2, steps), [-2]), (("choice_value", GREATEST, steps), [-2]),
                                (("choice_value", 0, steps), [-22]), (("choice_value", 1, steps), [-22])))
        for arm in (2, 3, GREATEST):
            self.check(UNEVEN, ((("choice_value", arm, 1), [-2]), (("choice_value", arm, 5), [-2])))
        self.check((), ((("choice_value", 0, 1), [-11]),))
        self.check(bandit(), ((("choice_value", 0, 1), [-2]),))


class PolicyValue(Case):

    def test_one_step(self):
        self.check_values(UNEVEN, (
            (("policy_value", 0, 0, 1), "2/3"), (("policy_value", 1, 1000, 1), "2/3"),
            (("policy_value", 2, 0, 1), "2/3"), (("policy_value", 2, 500, 1), "5/8"),
            (("policy_value", 2, 1000, 1), "7/12"), (("policy_value", 3, 0, 1), "2/3"),
            (("policy_value", 3, 1, 1), "1/2"), (("policy_value", 4, 0, 1), "11/18"),
            (("policy_value", 5, 0, 1), "7/12")))
        self.check_values(bandit((1, 1), (3, 2)), (
            (("policy_value", 1, 0, 1), "3/5"), (("policy_value", 1, 1, 1), "1/2")))

    def test_two_steps(self):
        self.check_values(EVEN, (
            (("policy_value", 0, 0, 2), "13/12"), (("policy_value", 1, 1000, 2), "13/12"),
            (("policy_value", 2, 500, 2), "25/24"), (("policy_value", 3, 1, 2), 1),
            (("policy_value", 4, 0, 2), "37/36"), (("policy_value", 5, 0, 2), 1)))
        # What is greedy is not the best here.
        self.check_values(HOPEFUL, ((("policy_value", 0, 0, 2), "22/21"), (("optimal", 2), "23/21")))

    def test_trials_before_count_for_first_explore(self):
        before = EVEN + [("record", 0, 1)]
        self.check_values(before, (
            (("policy_value", 3, 1, 1), "1/2"), (("policy_value", 3, 2, 1), "2/3"), (("policy_value", 3, 2, 2), "7/6"),
            (("policy_value", 3, 2, 3), "5/3"), (("policy_value", 3, 1000, 5), "10/3")))

    def test_assumed_probabilities_do_not_matter(self):
        calls = all_policies("policy_value")[::7]
        self.assertEqual(ask(*UNEVEN, *calls)[3:], ask(*ASSUMED, *calls)[4:])

    def test_edges(self):
        for policy in range(6):
            for parameter in PARAMETERS:
                self.check(UNEVEN, ((("policy_value", policy, parameter, 0), [0, 0, 1]),))
        for name, policy, parameter, steps in all_policies("policy_value"):
            # Of one arm, every step is worth its mean.
            self.check_values(bandit((3, 4)), (((name, policy, parameter, steps), Fraction(3 * steps, 7)),))

    def test_by_the_model(self):
        for before in (EVEN, HOPEFUL, THREE, bandit((20, 20), (1, 20), (20, 19), trials=((1, 1), (1, 1)))):
            self.check_by_the_model(before, all_policies("policy_value"))


class ExpectedReward(Case):

    def test_one_step(self):
        self.check_values(ASSUMED, (
            (("expected_reward", 0, 0, 1), "1/2"), (("expected_reward", 1, 0, 1), "1/2"),
            (("expected_reward", 2, 500, 1), "21/40"), (("expected_reward", 2, 1000, 1), "11/20"),
            (("expected_reward", 3, 1, 1), "3/5"), (("expected_reward", 4, 0, 1), "8/15"),
            (("expected_reward", 5, 0, 1), "11/20")))

    def test_several_steps(self):
        self.check_values(ASSUMED, (
            (("expected_reward", 0, 0, 2), "21/20"), (("expected_reward", 1, 1000, 2), "21/20"),
            (("expected_reward", 2, 1000, 2), "11/10"), (("expected_reward", 3, 1, 2), "11/10"),
            (("expected_reward", 3, 2, 3), "17/10"), (("expected_reward", 3, 1000, 5), 3),
            (("expected_reward", 5, 0, 5), "11/4")))

    def test_certain_results(self):
        # Arm 1 fails once; from then on arm 0 succeeds.
        self.check_values(UNEVEN + [("set_truth", [1000, 0])], (
            (("expected_reward", 0, 0, 1), 0), (("expected_reward", 0, 0, 2), 1), (("expected_reward", 0, 0, 5), 4),
            (("regret", 0, 0, 5), 1), (("expected_pulls", 0, 0, 5), (4, 1))))
        self.check_values(UNEVEN + [("set_truth", [0, 1000])], (
            (("expected_reward", 0, 0, 5), 5), (("regret", 0, 0, 5), 0), (("expected_pulls", 0, 0, 5), (0, 5))))

    def test_equal_probabilities(self):
        for thousandths in (0, 1, 500, 1000):
            before = THREE + [("set_truth", [thousandths] * 3)]
            for policy in range(6):
                for steps in range(greatest_steps(policy) + 1):
                    self.check_values(before, (
                        (("expected_reward", policy, 2, steps), Fraction(steps * thousandths, 1000)),
                        (("regret", policy, 2, steps), 0)))

    def test_the_last_assumed_probabilities_count(self):
        before = ASSUMED + [("set_truth", [0, 250])]
        self.check_values(before, ((("expected_reward", 0, 0, 1), "1/4"), (("regret", 3, 1, 1), "1/4")))
        # What is refused is not taken.
        for refused in ([], [1], [1, 1001], [1001, 1], [1, 1, 1]):
            self.check_values(before + [("set_truth", refused)], ((("expected_reward", 5, 0, 2), "1/4"),))

    def test_by_the_model(self):
        for before in (ASSUMED, THREE_ASSUMED, HOPEFUL + [("set_truth", [999, 1])],
                       bandit((20, 20), (1, 20), (20, 19)) + [("set_truth", [0, 1000, 500])]):
            self.check_by_the_model(before, all_policies("expected_reward"))


class Regret(Case):

    def test_against_the_greatest_assumed_probability(self):
        self.check_values(ASSUMED, (
            (("regret", 0, 0, 1), "1/10"), (("regret", 0, 0, 2), "3/20"), (("regret", 5, 0, 2), "1/10"),
            (("regret", 3, 1, 1), 0), (("regret", 3, 1, 2), "1/10"), (("regret", 3, 1000, 5), 0),
            (("regret", 2, 500, 1), "3/40"), (("regret", 4, 0, 1), "1/15")))
        self.check_values(bandit((1, 1), (1, 1), (1, 1)) + [("set_truth", [100, 300, 200])], (
            (("regret", 5, 0, 3), "3/10"), (("regret", 3, 1, 3), "3/10"), (("regret", 3, 1, 1), "1/5")))

    def test_by_the_model(self):
        for before in (ASSUMED, THREE_ASSUMED, EVEN + [("set_truth", [1000, 0])]):
            self.check_by_the_model(before, all_policies("regret"))


class ExpectedPulls(Case):

    def test_choices_of_each_arm(self):
        self.check_values(ASSUMED, (
            (("expected_pulls", 0, 0, 1), (0, 1)), (("expected_pulls", 0, 0, 2), ("1/2", "3/2")),
            (("expected_pulls", 2, 500, 1), ("1/4", "3/4")), (("expected_pulls", 3, 2, 3), (2, 1)),
            (("expected_pulls", 3, 1000, 5), (5, 0)), (("expected_pulls", 4, 0, 1), ("1/3", "2/3")),
            (("expected_pulls", 5, 0, 2), (1, 1)), (("expected_pulls", 5, 0, 5), ("5/2", "5/2"))))
        self.check(bandit((1, 1), (1, 1), (1, 1)) + [("set_truth", [1, 2, 3])], (
            (("expected_pulls", 5, 0, 5), [3, 5, 3, 5, 3, 5, 3]), (("expected_pulls", 3, 2, 5), [3, 2, 1, 2, 1, 1, 1])))

    def test_recorded_trials_are_no_choices(self):
        before = bandit((1, 1), (1, 1), trials=((0, 1), (0, 0), (1, 1))) + [("set_truth", [500, 500])]
        self.check_values(before, ((("expected_pulls", 3, 3, 3), (1, 2)), (("expected_pulls", 5, 0, 4), (2, 2))))

    def test_edges(self):
        for policy in range(6):
            self.check(ASSUMED, ((("expected_pulls", policy, 3, 0), [2, 0, 1, 0, 1]),))
            self.check(bandit((1, 1)) + [("set_truth", [7])], (
                (("expected_pulls", policy, 3, 0), [1, 0, 1]), (("expected_pulls", policy, 3, 3), [1, 3, 1])))

    def test_by_the_model(self):
        for before in (ASSUMED, THREE_ASSUMED, EVEN + [("set_truth", [0, 1000])]):
            self.check_by_the_model(before, all_policies("expected_pulls"))


class PoliciesAndSteps(Case):
    """What the calls 17 to 20 have in common."""

    def test_no_steps(self):
        for policy in range(6):
            for name in ("policy_value", "expected_reward", "regret"):
                self.check(ASSUMED, (((name, policy, 0, 0), [0, 0, 1]), ((name, policy, 1000, 0), [0, 0, 1])))

    def test_the_greatest_steps(self):
        for name in WITH_STEPS:
            for policy in range(6):
                most = greatest_steps(policy)
                self.assertGreater(len(ask_last(*ASSUMED, (name, policy, 1000, most))), 1)
                for steps in (most + 1,) + FAR:
                    self.check(ASSUMED, (((name, policy, 0, steps), [-22]), ((name, policy, 1000, steps), [-22])))

    def test_policies_and_parameters_outside_their_limits(self):
        for name in WITH_STEPS:
            for policy in FAR:
                self.check(ASSUMED, (((name, policy, 0, 0), [-22]), ((name, policy, 1000, 1), [-22])))
            for policy in range(6):
                self.check(ASSUMED, (((name, policy, 1001, 0), [-22]), ((name, policy, GREATEST, 1), [-22])))

    def test_errors_in_their_order(self):
        wrong = [(policy, 0, 0) for policy in FAR] + [(0, 1001, 1), (0, 0, 6), (4, 0, 4), (6, 1001, 6), (5, GREATEST, 5)]
        right = [(0, 0, 0), (0, 0, 5), (4, 1000, 3), (5, 7, 1)]
        for name in WITH_STEPS:
            for rest in wrong + right:
                self.check((), (((name, *rest), [-11]),))
            for rest in wrong:
                self.check(bandit(), (((name, *rest), [-22]),))
                self.check(UNEVEN, (((name, *rest), [-22]),))
                self.check(ASSUMED, (((name, *rest), [-22]),))
            for rest in right:
                self.check(bandit(), (((name, *rest), [-33]),))
                self.check(bandit() + [("set_truth", [])], (((name, *rest), [-33]),))
        for name in WITH_TRUTH:
            for rest in right:
                self.check(UNEVEN, (((name, *rest), [-16]),))

    def test_a_new_arm_removes_the_assumed_probabilities(self):
        for name in WITH_TRUTH:
            before = ASSUMED + [("add_arm", 1, 1)]
            self.check(before, (((name, 0, 0, 1), [-16]), ((name, 0, 0, 0), [-16])))
            self.check(before + [("set_truth", [600, 500])], (((name, 0, 0, 1), [-16]),))
            found = ask_last(*before, ("set_truth", [600, 500, 400]), (name, 0, 0, 1))
            self.assertGreaterEqual(found[0], 0)

    def test_nothing_else_removes_them(self):
        others = (("add_arm", 0, 1), ("record", 0, 1), ("record", 2, 1), ("undo",), ("set_truth", [1]), ("mean", 0),
                  ("optimal", 2), ("run", 0, 0, 0, 1), ("run", 4, 0, 4, 1), ("simulate", 5, 0, 3, 1), ("status",))
        for other in others:
            found = ask_last(*ASSUMED, other, ("expected_reward", 5, 0, 2))
            self.assertEqual(found, [0, 11, 10], other)
        full = bandit((1, 1), (1, 1), (1, 1)) + [("set_truth", [300, 300, 300]), ("add_arm", 1, 1)]
        self.check(full, ((("expected_reward", 0, 0, 1), [0, 3, 10]),))

    def test_a_new_bandit_has_none(self):
        before = ASSUMED + [("create",)]
        for name in WITH_TRUTH:
            self.check(before, (((name, 0, 0, 1), [-33]),))
            self.check(before + [("add_arm", 1, 1), ("add_arm", 2, 1)], (((name, 0, 0, 1), [-16]),))


class Information(Case):

    def test_what_a_trial_changes(self):
        self.check_values(EVEN, ((("information", 0), "1/12"), (("information", 1), "1/12")))
        self.check_values(HOPEFUL, ((("information", 0), "1/14"), (("information", 1), 0)))
        self.check_values(bandit((1, 1), (1, 1), (1, 1)), ((("information", 2), "1/12"),))

    def test_a_trial_that_changes_no_choice(self):
        self.check(UNEVEN, ((("information", 0), [0, 0, 1]), (("information", 1), [0, 0, 1])))
        self.check(bandit((1, 1), (1, 1), (20, 1)), (
            (("information", 0), [0, 0, 1]), (("information", 1), [0, 0, 1]), (("information", 2), [0, 0, 1])))
        self.check(bandit((3, 8)), ((("information", 0), [0, 0, 1]),))

    def test_trials_count(self):
        self.check_values(bandit((1, 1), (1, 2), trials=((1, 1),)), ((("information", 0), "1/12"),))
        self.check_values(EVEN + [("record", 0, 1)], ((("information", 0), 0), (("information", 1), 0)))

    def test_by_the_model(self):
        for before, count in ((HOPEFUL, 2), (THREE, 3), (bandit((20, 19), (18, 17), (1, 1)), 3)):
            self.check_by_the_model(before, [("information", arm) for arm in range(count)])

    def test_errors(self):
        for arm in (2, 3, GREATEST):
            self.check(UNEVEN, ((("information", arm), [-2]),))
        self.check(bandit(), ((("information", 0), [-2]),))
        self.check((), ((("information", 0), [-11]), (("information", GREATEST), [-11])))


if __name__ == "__main__":
    unittest.main()
