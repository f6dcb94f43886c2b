"""The calls eliminate (22), history (25) and status (26)."""

import unittest

from helper import GREATEST, Numbers, ask, ask_last, bandit, expected, value

TWO = bandit((1, 1), (2, 1))
EVEN = bandit((1, 1), (1, 1))


class Case(unittest.TestCase):

    def check(self, before, rows):
        for call, answer in rows:
            self.assertEqual(ask_last(*before, call), answer, (before, call))


class Eliminate(Case):

    def test_the_arms_below_the_threshold(self):
        # 1/3 and 2/3; then 1/6, 1/3 and 1/2.
        self.check(TWO, (
            (("eliminate", 400), [1, 0]), (("eliminate", 333), [0]), (("eliminate", 334), [1, 0]),
            (("eliminate", 666), [1, 0]), (("eliminate", 667), [2, 0, 1])))
        self.check(bandit((1, 1), (2, 1), (3, 1)), (
            (("eliminate", 166), [0]), (("eliminate", 167), [1, 0]), (("eliminate", 400), [2, 0, 1]),
            (("eliminate", 501), [3, 0, 1, 2])))
        self.check(bandit((3, 1), (1, 1), (2, 1)), ((("eliminate", 200), [1, 1]), (("eliminate", 400), [2, 1, 2])))

    def test_a_probability_at_the_threshold_stays(self):
        self.check(EVEN, ((("eliminate", 499), [0]), (("eliminate", 500), [0]), (("eliminate", 501), [2, 0, 1])))
        self.check(bandit((1, 1), (2, 1), (3, 1)), ((("eliminate", 500), [2, 0, 1]),))

    def test_edges(self):
        self.check(TWO, ((("eliminate", 0), [0]), (("eliminate", 1000), [2, 0, 1])))
        self.check(bandit((1, 20), (20, 1)), ((("eliminate", 0), [0]), (("eliminate", 1000), [2, 0, 1])))
        # One arm is the best with certainty, and no threshold is greater than that.
        self.check(bandit((1, 20)), ((("eliminate", 0), [0]), (("eliminate", 1000), [0])))
        self.check(bandit(), ((("eliminate", 0), [0]), (("eliminate", 1000), [0])))

    def test_trials_count(self):
        self.check(EVEN + [("record", 1, 1)], ((("eliminate", 400), [1, 0]),))

    def test_it_changes_nothing(self):
        found = ask(*TWO, ("set_truth", [1, 2]), ("eliminate", 1000), ("status",), ("propensities", 4, 0))
        self.assertEqual(found[-3:], [[2, 0, 1], [2, 0, 0, 1], [2, 1, 3, 2, 3]])

    def test_as_best_probability_says(self):
        numbers = Numbers(22)
        for count in (1, 2, 3) * 5:
            arms = [(1 + numbers.below(20), 1 + numbers.below(20)) for arm in range(count)]
            calls = [("best_probability", arm) for arm in range(count)]
            calls += [("eliminate", threshold) for threshold in range(0, 1001, 40)]
            found = ask(*bandit(*arms), *calls)[1 + count:]
            for call, answer in list(zip(calls, found))[count:]:
                less = [arm for arm in range(count) if value(found[arm]) * 1000 < call[1]]
                self.assertEqual(answer, [len(less)] + less, (arms, call))

    def test_errors(self):
        for threshold in (1001, 1002, 4294967294, GREATEST):
            self.check((), ((("eliminate", threshold), [-11]),))
            self.check(bandit(), ((("eliminate", threshold), [-22]),))
            self.check(TWO, ((("eliminate", threshold), [-22]),))
        self.check((), ((("eliminate", 0), [-11]), (("eliminate", 1000), [-11])))


class History(Case):

    def test_the_trials_in_their_order(self):
        trials = ((1, 1), (0, 0), (1, 0), (0, 1))
        self.assertEqual(ask(*bandit((1, 1), (1, 1), trials=trials), ("history",), ("undo",), ("history",))[-3:],
                         [[4, 1, 1, 0, 0, 1, 0, 0, 1], [3, 0, 1], [3, 1, 1, 0, 0, 1, 0]])

    def test_no_trials(self):
        self.check(bandit(), ((("history",), [0]),))
        self.check(TWO, ((("history",), [0]),))
        self.check(TWO + [("record", 0, 1), ("undo",)], ((("history",), [0]),))

    def test_forty_trials(self):
        trials = tuple((place % 2, place % 3 % 2) for place in range(40))
        self.check(bandit((1, 1), (1, 1), trials=trials), (
            (("history",), [40] + [number for trial in trials for number in trial]),))

    def test_a_new_bandit_has_none(self):
        self.check(TWO + [("record", 0, 1), ("create",)], ((("history",), [0]),))

    def test_no_bandit(self):
        self.check((), ((("history",), [-11]),))


class Status(Case):

    def test_numbers_of_arms_trials_and_successes(self):
        self.check(bandit((1, 1)), ((("status",), [1, 0, 0, 0]),))
        self.check(bandit((1, 1), (1, 1), (5, 5), trials=((1, 1), (0, 0), (2, 1), (0, 1))), (
            (("status",), [3, 4, 3, 0]),))
        self.check(bandit((1, 1), trials=((0, 1), (0, 1))) + [("undo",)], ((("status",), [1, 1, 1, 0]),))

    def test_without_arms(self):
        self.check(bandit(), ((("status",), [0, 0, 0, 1]),))
        self.check(bandit() + [("set_truth", [])], ((("status",), [0, 0, 0, 1]),))
        self.check(bandit() + [("set_truth", [1])], ((("status",), [0, 0, 0, 1]),))
        self.check(TWO + [("create",)], ((("status",), [0, 0, 0, 1]),))

    def test_assumed_probabilities(self):
        found = ask(("create",), ("set_truth", []), ("add_arm", 1, 1), ("status",), ("set_truth", [0]), ("status",),
                    ("add_arm", 0, 1), ("status",), ("add_arm", 1, 1), ("status",), ("set_truth", [1]), ("status",),
                    ("set_truth", [1, 1001]), ("status",), ("set_truth", [1, 2]), ("status",), ("record", 0, 1),
                    ("undo",), ("run", 0, 0, 2, 1), ("status",), ("create",), ("status",))
        self.assertEqual([answer for answer in found if len(answer) == 4], [
            [1, 0, 0, 0], [1, 0, 0, 1], [1, 0, 0, 1], [2, 0, 0, 0], [2, 0, 0, 0], [2, 0, 0, 0], [2, 0, 0, 1],
            [2, 2, found[18][1], 1], [0, 0, 0, 1]])

    def test_a_refused_fourth_arm_removes_nothing(self):
        before = bandit((1, 1), (1, 1), (1, 1)) + [("set_truth", [1, 2, 3])]
        for arm in ((1, 1), (0, 1), (21, 21)):
            self.check(before + [("add_arm", *arm)], ((("status",), [3, 0, 0, 1]),))

    def test_by_the_model(self):
        calls = bandit((1, 1), (2, 2)) + [("set_truth", [300, 700])]
        for seed in range(12):
            calls += [("run", 5, 0, 2, seed), ("record", seed % 2, 0), ("status",), ("history",)]
        self.assertEqual(ask(*calls), expected(*calls))

    def test_no_bandit(self):
        self.check((), ((("status",), [-11]),))


if __name__ == "__main__":
    unittest.main()
