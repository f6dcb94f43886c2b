"""Each of the calls 0 to 13: ordinary arguments, the edges of its ranges, and its errors in their order."""

import unittest

from helper import GREATEST, ask, ask_last, bandit

PAST_THE_ARMS = (2, 3, 4294967294, GREATEST)
FULL = tuple((place % 2, place % 3 % 2) for place in range(40))


class Case(unittest.TestCase):

    def check(self, before, rows):
        """Each row's call comes behind the calls before, on an object of its own."""
        for call, answer in rows:
            self.assertEqual(ask_last(*before, call), answer, call)


class NoBandit(Case):

    def test_every_call_but_create(self):
        self.check((), (
            (("add_arm", 1, 1), [-11]), (("record", 0, 0), [-11]), (("undo",), [-11]), (("set_truth", []), [-11]),
            (("arm_info", 0), [-11]), (("mean", 0), [-11]), (("variance", 0), [-11]), (("exceed", 0, 1, 2), [-11]),
            (("best_probability", 0), [-11]), (("compare", 0, 1), [-11]), (("expected_max",), [-11]),
            (("index", 0, 0), [-11]), (("propensities", 0, 0), [-11])))

    def test_it_comes_before_all_other_errors(self):
        far = GREATEST
        self.check((), (
            (("add_arm", 0, 21), [-11]), (("record", far, far), [-11]), (("set_truth", [1001]), [-11]),
            (("set_truth", [far, far, far]), [-11]), (("arm_info", far), [-11]), (("mean", far), [-11]),
            (("variance", far), [-11]), (("exceed", far, far, 0), [-11]), (("best_probability", far), [-11]),
            (("compare", far, far), [-11]), (("index", far, far), [-11]), (("propensities", far, far), [-11])))

    def test_it_lasts_until_the_first_create(self):
        self.assertEqual(ask(("add_arm", 1, 1), ("undo",), ("create",), ("mean", 0), ("add_arm", 1, 1), ("mean", 0)),
                         [[-11], [-11], [0], [-2], [0], [0, 1, 2]])


class Create(Case):

    def test_it_answers_0(self):
        self.assertEqual(ask(("create",)), [[0]])

    def test_it_begins_anew(self):
        before = bandit((1, 1), (2, 1), (3, 1), trials=((0, 1), (2, 0))) + [("set_truth", [1, 2, 3]), ("create",)]
        self.check(before, (
            (("mean", 0), [-2]), (("arm_info", 2), [-2]), (("undo",), [-33]), (("expected_max",), [-33]),
            (("propensities", 0, 0), [-33]), (("set_truth", [1, 2, 3]), [-22]), (("set_truth", []), [0]),
            (("record", 0, 1), [-2]), (("add_arm", 5, 6), [0])))
        self.assertEqual(ask(*before, ("add_arm", 5, 6), ("record", 0, 1), ("arm_info", 0))[-3:],
                         [[0], [1], [5, 6, 1, 0]])

    def test_it_succeeds_again_and_again(self):
        self.assertEqual(ask(*[("create",)] * 60), [[0]] * 60)

    def test_it_makes_room_for_arms_and_trials(self):
        before = bandit((1, 1), (1, 1), (1, 1), trials=FULL[:10]) + [("create",)]
        self.assertEqual(ask(*before, *[("add_arm", 1, 1)] * 4)[-4:], [[0], [1], [2], [-28]])


class AddArm(Case):

    def test_numbers_from_0_on(self):
        self.assertEqual(ask(*bandit((1, 2), (3, 4), (20, 20))), [[0], [0], [1], [2]])

    def test_edges(self):
        self.check((("create",),), (
            (("add_arm", 1, 1), [0]), (("add_arm", 20, 20), [0]), (("add_arm", 1, 20), [0]),
            (("add_arm", 20, 1), [0]), (("add_arm", 0, 1), [-22]), (("add_arm", 1, 0), [-22]),
            (("add_arm", 21, 1), [-22]), (("add_arm", 1, 21), [-22]), (("add_arm", 0, 0), [-22]),
            (("add_arm", GREATEST, 1), [-22]), (("add_arm", 1, GREATEST), [-22])))

    def test_three_arms_are_the_most(self):
        self.check(bandit((1, 1), (1, 1), (1, 1)), (
            (("add_arm", 1, 1), [-28]), (("add_arm", 20, 20), [-28]), (("add_arm", 0, 1), [-22]),
            (("add_arm", 1, 21), [-22]), (("add_arm", GREATEST, GREATEST), [-22])))

    def test_an_arm_may_come_behind_trials(self):
        self.assertEqual(ask(*bandit((1, 2), trials=((0, 1), (0, 0))), ("add_arm", 3, 4), ("arm_info", 1),
                             ("arm_info", 0))[-3:], [[1], [3, 4, 0, 0], [1, 2, 1, 1]])


class Record(Case):

    def test_the_count_of_trials(self):
        self.assertEqual(ask(*bandit((1, 1), (1, 1), trials=((0, 0), (1, 1), (0, 1), (0, 0))))[3:],
                         [[1], [2], [3], [4]])

    def test_edges(self):
        self.check(bandit((1, 1), (1, 1)), (
            (("record", 0, 0), [1]), (("record", 1, 1), [1]), (("record", 2, 0), [-2]), (("record", 0, 2), [-22]),
            (("record", 1, GREATEST), [-22]), (("record", GREATEST, 1), [-2])))

    def test_a_missing_arm_comes_before_the_result(self):
        self.check(bandit((1, 1)), ((("record", 1, 2), [-2]), (("record", GREATEST, GREATEST), [-2])))
        self.check((("create",),), ((("record", 0, 0), [-2]), (("record", 0, 2), [-2])))

    def test_forty_trials_are_the_most(self):
        full = bandit((1, 1), (1, 1), trials=FULL)
        self.assertEqual(ask(*full)[3:], [[count] for count in range(1, 41)])
        self.check(full, (
            (("record", 0, 0), [-28]), (("record", 1, 1), [-28]), (("record", 2, 0), [-2]), (("record", 0, 2), [-22]),
            (("record", 2, 2), [-2])))

    def test_undo_makes_room_for_a_trial(self):
        full = bandit((1, 1), (1, 1), trials=FULL)
        self.assertEqual(ask(*full, ("undo",), ("record", 1, 1), ("record", 1, 1))[-3:],
                         [[39, FULL[39][0], FULL[39][1]], [40], [-28]])


class Undo(Case):

    def test_the_last_trial_comes_first(self):
        trials = ((0, 1), (1, 0), (1, 1), (0, 0))
        self.assertEqual(ask(*bandit((1, 1), (1, 1), trials=trials), *[("undo",)] * 5)[-5:],
                         [[3, 0, 0], [2, 1, 1], [1, 1, 0], [0, 0, 1], [-33]])

    def test_nothing_to_undo(self):
        self.assertEqual(ask_last(("create",), ("undo",)), [-33])
        self.assertEqual(ask_last(*bandit((1, 1)), ("undo",)), [-33])

    def test_arms_stay(self):
        self.assertEqual(ask(*bandit((4, 5), trials=((0, 1),)), ("undo",), ("arm_info", 0))[-2:],
                         [[0, 0, 1], [4, 5, 0, 0]])


class SetTruth(Case):

    def test_one_element_for_each_arm(self):
        for count in range(4):
            before = bandit(*[(1, 1)] * count)
            for length in range(4):
                answer = [0] if length == count else [-22]
                self.check(before, ((("set_truth", [500] * length), answer),))

    def test_edges(self):
        self.check(bandit((1, 1), (1, 1)), (
            (("set_truth", [0, 1000]), [0]), (("set_truth", [1000, 0]), [0]), (("set_truth", [1001, 0]), [-22]),
            (("set_truth", [0, 1001]), [-22]), (("set_truth", [GREATEST, GREATEST]), [-22]),
            (("set_truth", [1, 2, 1001]), [-22])))

    def test_it_may_come_again(self):
        self.assertEqual(ask(*bandit((1, 1)), ("set_truth", [1]), ("set_truth", [2]))[-2:], [[0], [0]])

    def test_it_changes_no_distribution(self):
        self.assertEqual(ask(*bandit((1, 2), trials=((0, 1),)), ("set_truth", [900]), ("arm_info", 0), ("mean", 0))[-2:],
                         [[1, 2, 1, 0], [0, 1, 2]])


class ArmInfo(Case):

    def test_parameters_and_trials(self):
        self.check(bandit((7, 20), (20, 1), trials=((1, 1), (1, 1), (0, 0), (1, 0))), (
            (("arm_info", 0), [7, 20, 0, 1]), (("arm_info", 1), [20, 1, 2, 1])))


class OneArm(Case):

    def test_no_such_arm(self):
        before = bandit((1, 1), (1, 1))
        for arm in PAST_THE_ARMS:
            self.check(before, (
                (("arm_info", arm), [-2]), (("mean", arm), [-2]), (("variance", arm), [-2]),
                (("exceed", arm, 1, 2), [-2]), (("best_probability", arm), [-2]), (("index", arm, 0), [-2]),
                (("compare", arm, 0), [-2]), (("compare", 0, arm), [-2]), (("compare", arm, arm), [-2])))
        self.check((("create",),), (
            (("arm_info", 0), [-2]), (("mean", 0), [-2]), (("variance", 0), [-2]), (("exceed", 0, 1, 2), [-2]),
            (("best_probability", 0), [-2]), (("index", 0, 0), [-2]), (("compare", 0, 1), [-2])))

    def test_a_missing_arm_comes_before_other_arguments(self):
        self.check(bandit((1, 1)), (
            (("exceed", 1, 2, 1), [-2]), (("exceed", 1, 0, 0), [-2]), (("exceed", 1, 0, 1001), [-2]),
            (("index", 1, 1001), [-2]), (("compare", 1, 1), [-2])))


class Mean(Case):

    def test_of_parameters_and_trials(self):
        self.check(bandit((1, 1), (20, 1), (4, 20)), (
            (("mean", 0), [0, 1, 2]), (("mean", 1), [0, 20, 21]), (("mean", 2), [0, 1, 6])))
        self.check(bandit((1, 1), (2, 3), trials=((0, 1), (0, 1), (0, 0), (1, 0))), (
            (("mean", 0), [0, 3, 5]), (("mean", 1), [0, 1, 3])))

    def test_after_forty_trials(self):
        self.check(bandit((20, 1), trials=((0, 1),) * 40), ((("mean", 0), [0, 60, 61]),))


class Variance(Case):

    def test_of_parameters_and_trials(self):
        self.check(bandit((1, 1), (2, 1), (20, 20)), (
            (("variance", 0), [0, 1, 12]), (("variance", 1), [0, 1, 18]), (("variance", 2), [0, 1, 164])))
        self.check(bandit((1, 1), (3, 1), trials=((0, 1), (0, 0), (0, 0))), (
            (("variance", 0), [0, 1, 25]), (("variance", 1), [0, 3, 80])))

    def test_after_forty_trials(self):
        # 60 * 20 / (80 * 80 * 81)
        self.check(bandit((20, 20), trials=((0, 1),) * 40), ((("variance", 0), [0, 1, 432]),))


class Exceed(Case):

    def test_by_the_distribution(self):
        self.check(bandit((1, 1), (1, 2), (3, 1)), (
            (("exceed", 0, 1, 3), [0, 2, 3]), (("exceed", 0, 999, 1000), [0, 1, 1000]),
            (("exceed", 1, 1, 3), [0, 4, 9]), (("exceed", 2, 1, 2), [0, 7, 8]), (("exceed", 2, 2, 3), [0, 19, 27])))

    def test_after_trials(self):
        # Of the parameters 2 and 2, the distribution is 3 * x^2 - 2 * x^3.
        self.check(bandit((1, 1), trials=((0, 1), (0, 0))), (
            (("exceed", 0, 1, 2), [0, 1, 2]), (("exceed", 0, 1, 3), [0, 20, 27]), (("exceed", 0, 1, 4), [0, 27, 32])))

    def test_equal_fractions_are_one(self):
        self.check(bandit((3, 4)), ((("exceed", 0, 1, 2), [0, 11, 32]), (("exceed", 0, 500, 1000), [0, 11, 32])))

    def test_edges(self):
        self.check(bandit((2, 3)), (
            (("exceed", 0, 0, 1), [0, 1, 1]), (("exceed", 0, 1, 1), [0, 0, 1]), (("exceed", 0, 0, 1000), [0, 1, 1]),
            (("exceed", 0, 1000, 1000), [0, 0, 1]), (("exceed", 0, 2, 1), [-22]), (("exceed", 0, 0, 0), [-22]),
            (("exceed", 0, 1, 0), [-22]), (("exceed", 0, 0, 1001), [-22]), (("exceed", 0, 1001, 1001), [-22]),
            (("exceed", 0, 1001, 1000), [-22]), (("exceed", 0, GREATEST, 1000), [-22]),
            (("exceed", 0, 1, GREATEST), [-22])))


class BestProbability(Case):

    def test_of_one_two_and_three_arms(self):
        self.check(bandit((7, 3)), ((("best_probability", 0), [0, 1, 1]),))
        self.check(bandit((1, 1), (1, 2)), (
            (("best_probability", 0), [0, 2, 3]), (("best_probability", 1), [0, 1, 3])))
        # Densities 1, 2 * x and 3 * x^2.
        self.check(bandit((1, 1), (2, 1), (3, 1)), (
            (("best_probability", 0), [0, 1, 6]), (("best_probability", 1), [0, 1, 3]),
            (("best_probability", 2), [0, 1, 2])))

    def test_equal_arms(self):
        self.check(bandit((5, 9), (5, 9), (5, 9)), (
            (("best_probability", 0), [0, 1, 3]), (("best_probability", 1), [0, 1, 3]),
            (("best_probability", 2), [0, 1, 3])))

    def test_after_trials(self):
        self.check(bandit((1, 1), (1, 1), trials=((0, 1), (1, 0))), (
            (("best_probability", 0), [0, 5, 6]), (("best_probability", 1), [0, 1, 6])))


class Compare(Case):

    def test_two_arms(self):
        self.check(bandit((2, 1), (1, 2)), ((("compare", 0, 1), [0, 5, 6]), (("compare", 1, 0), [0, 1, 6])))

    def test_a_third_arm_does_not_matter(self):
        self.check(bandit((2, 1), (20, 1), (1, 2), trials=((1, 1), (1, 1))), (
            (("compare", 0, 2), [0, 5, 6]), (("compare", 2, 0), [0, 1, 6])))

    def test_errors(self):
        self.check(bandit((2, 1), (1, 2)), (
            (("compare", 0, 0), [-22]), (("compare", 1, 1), [-22]), (("compare", 2, 2), [-2]),
            (("compare", 0, 2), [-2]), (("compare", 2, 0), [-2]), (("compare", GREATEST, GREATEST), [-2])))


class ExpectedMax(Case):

    def test_of_one_two_and_three_arms(self):
        self.check(bandit((2, 5)), ((("expected_max",), [0, 2, 7]),))
        self.check(bandit((1, 1), (1, 1)), ((("expected_max",), [0, 2, 3]),))
        self.check(bandit((1, 1), (1, 1), (1, 1)), ((("expected_max",), [0, 3, 4]),))
        self.check(bandit((1, 1), (2, 1), (3, 1)), ((("expected_max",), [0, 6, 7]),))

    def test_after_trials(self):
        self.check(bandit((1, 1), (1, 1), trials=((0, 1),)), ((("expected_max",), [0, 3, 4]),))

    def test_no_arms(self):
        self.assertEqual(ask_last(("create",), ("expected_max",)), [-33])


class Index(Case):

    def test_for_a_bonus(self):
        self.check(bandit((1, 1), (3, 2), trials=((1, 0),)), (
            (("index", 0, 0), [0, 1, 2]), (("index", 0, 1), [0, 2, 3]), (("index", 1, 0), [0, 1, 2]),
            (("index", 1, 3), [0, 2, 3])))

    def test_edges(self):
        self.check(bandit((2, 3)), (
            (("index", 0, 0), [0, 2, 5]), (("index", 0, 1000), [0, 334, 335]), (("index", 0, 1001), [-22]),
            (("index", 0, GREATEST), [-22])))


class Propensities(Case):

    def test_edges(self):
        two = bandit((1, 1), (2, 1))
        for policy in range(6):
            for parameter in (0, 1000):
                self.assertEqual(ask_last(*two, ("propensities", policy, parameter))[0], 2)
            self.check(two, ((("propensities", policy, 1001), [-22]), (("propensities", policy, GREATEST), [-22])))
        self.check(two, (
            (("propensities", 6, 0), [-22]), (("propensities", 6, 1001), [-22]), (("propensities", GREATEST, 0), [-22])))

    def test_limits_come_before_no_arms(self):
        for policy in range(6):
            self.check((("create",),), (
                (("propensities", policy, 0), [-33]), (("propensities", policy, 1000), [-33]),
                (("propensities", policy, 1001), [-22])))
        self.check((("create",),), ((("propensities", 6, 0), [-22]), (("propensities", 6, 1001), [-22])))


if __name__ == "__main__":
    unittest.main()
