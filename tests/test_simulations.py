"""The calls with a seed: draw (14), simulate (23) and run (24)."""

import unittest

from helper import GREATEST, Numbers, ask, ask_last, bandit, expected

TWO = bandit((1, 1), (2, 1))
EVEN = bandit((1, 1), (1, 1))
THREE = bandit((1, 1), (1, 1), (1, 1))
ASSUMED = TWO + [("set_truth", [600, 500])]
SEEDS = (0, 1, 12345, 2 ** 31 - 1, 2 ** 31, 2 ** 31 + 1, 1406932606, GREATEST - 1, GREATEST)
FAR = (6, 7, 4294967294, GREATEST)
HALF = 2 ** 30
LAST = 2 ** 31 - 1


def seed_before(seed):
    """The seed whose new seed is this one."""
    return (seed - 12345) * pow(1103515245, -1, 2 ** 31) % 2 ** 31


def seed_two_before(seed):
    return seed_before(seed_before(seed))


def seed_after(seed, draws):
    for draw in range(draws):
        seed = (1103515245 * seed + 12345) % 2 ** 31
    return seed


def trials_in(answer):
    """The seed, the number of successes and the trials of an answer of simulate."""
    return answer[0], answer[1], list(zip(answer[2::2], answer[3::2]))


class Case(unittest.TestCase):

    def check(self, before, rows):
        for call, answer in rows:
            self.assertEqual(ask_last(*before, call), answer, (before, call))

    def check_by_the_model(self, before, calls):
        for call in calls:
            self.assertEqual(ask_last(*before, call), expected(*before, call)[-1], (before, call))


class Seeds(unittest.TestCase):

    def test_the_seeds_that_these_tests_look_for(self):
        for seed in (0, 1, HALF, LAST):
            self.assertEqual(seed_after(seed_before(seed), 1), seed)
            self.assertEqual(seed_after(seed_two_before(seed), 2), seed)


class Draw(Case):

    def test_the_arm_and_its_propensity(self):
        # 12345 / 2^31 is far below 1/3; the draw from 1 is about 0.514.
        self.check(TWO, ((("draw", 5, 0, 0), [0, 1, 2]), (("draw", 5, 0, 1), [1, 1, 2]),
                         (("draw", 4, 0, 0), [0, 1, 3]), (("draw", 4, 0, 1), [1, 2, 3]),
                         (("draw", 2, 500, 0), [0, 1, 4]), (("draw", 2, 500, 1), [1, 3, 4])))
        self.check(THREE, ((("draw", 5, 0, 0), [0, 1, 3]), (("draw", 5, 0, 1), [1, 1, 3]),
                           (("draw", 5, 0, seed_before(LAST)), [2, 1, 3])))

    def test_the_sum_must_be_greater_than_the_draw(self):
        self.check(EVEN, (
            (("draw", 5, 0, seed_before(HALF - 1)), [0, 1, 2]), (("draw", 5, 0, seed_before(HALF)), [1, 1, 2]),
            (("draw", 5, 0, seed_before(HALF + 1)), [1, 1, 2])))
        # A quarter for arm 0, and 2^29 / 2^31 is just a quarter.
        self.check(TWO, (
            (("draw", 2, 500, seed_before(2 ** 29 - 1)), [0, 1, 4]), (("draw", 2, 500, seed_before(2 ** 29)), [1, 3, 4])))
        # 2^31 / 3 lies between 715827882 and 715827883.
        self.check(THREE, (
            (("draw", 5, 0, seed_before(715827882)), [0, 1, 3]), (("draw", 5, 0, seed_before(715827883)), [1, 1, 3]),
            (("draw", 5, 0, seed_before(1431655765)), [1, 1, 3]), (("draw", 5, 0, seed_before(1431655766)), [2, 1, 3])))

    def test_an_arm_that_is_never_chosen_is_never_drawn(self):
        for seed in (seed_before(0), seed_before(1), seed_before(HALF), seed_before(LAST)):
            self.check(TWO, ((("draw", 0, 0, seed), [1, 1, 1]), (("draw", 3, 1, seed), [0, 1, 1])))
            self.check(bandit((1, 2), (2, 1), (1, 2)), ((("draw", 0, 0, seed), [1, 1, 1]),))
            self.check(bandit((2, 1), (1, 2), (1, 2)), ((("draw", 0, 0, seed), [0, 1, 1]),))

    def test_one_arm(self):
        for policy in range(6):
            for seed in SEEDS:
                self.check(bandit((3, 4)), ((("draw", policy, 700, seed), [0, 1, 1]),))

    def test_any_seed(self):
        # From the greatest seed, the new one is 1043980748: a draw of about 0.486.
        self.check(THREE, ((("draw", 5, 0, GREATEST), [1, 1, 3]), (("draw", 5, 0, LAST), [1, 1, 3])))
        for seed in SEEDS:
            for policy in range(6):
                self.check_by_the_model(THREE + [("record", 1, 1)], [("draw", policy, 321, seed)])

    def test_as_propensities_says(self):
        before = bandit((3, 2), (4, 3), (2, 2), trials=((0, 0), (1, 1), (1, 0)))
        for policy in range(6):
            for parameter in (0, 2, 400, 1000):
                found = ask(*before, ("propensities", policy, parameter),
                            *[("draw", policy, parameter, 99999 * place) for place in range(20)])
                fractions = list(zip(found[-21][1::2], found[-21][2::2]))
                for arm, numerator, denominator in found[-20:]:
                    self.assertEqual(fractions[arm], (numerator, denominator))
                    self.assertGreater(numerator, 0)

    def test_it_changes_nothing_and_needs_no_truth(self):
        self.assertEqual(ask(*TWO, ("draw", 5, 0, 1), ("draw", 5, 0, 1), ("history",), ("status",))[3:],
                         [[1, 1, 2], [1, 1, 2], [0], [2, 0, 0, 0]])

    def test_errors_in_their_order(self):
        wrong = [(policy, parameter) for policy in FAR for parameter in (0, 1000, 1001)]
        wrong += [(policy, parameter) for policy in range(6) for parameter in (1001, GREATEST)]
        right = [(policy, parameter) for policy in range(6) for parameter in (0, 1000)]
        for seed in (0, GREATEST):
            for pair in wrong:
                self.check((), ((("draw", *pair, seed), [-11]),))
                self.check(bandit(), ((("draw", *pair, seed), [-22]),))
                self.check(TWO, ((("draw", *pair, seed), [-22]),))
            for pair in right:
                self.check((), ((("draw", *pair, seed), [-11]),))
                self.check(bandit(), ((("draw", *pair, seed), [-33]),))
                self.assertGreaterEqual(ask_last(*TWO, ("draw", *pair, seed))[0], 0)


class Simulate(Case):

    def test_a_step_takes_two_draws(self):
        # The second new seed from 0 is 1406932606: a draw of about 0.655.
        self.check(ASSUMED, ((("simulate", 5, 0, 1, 0), [1406932606, 0, 0, 0]),))
        self.check(TWO + [("set_truth", [655, 0])], ((("simulate", 5, 0, 1, 0), [1406932606, 0, 0, 0]),))
        self.check(TWO + [("set_truth", [656, 0])], ((("simulate", 5, 0, 1, 0), [1406932606, 1, 0, 1]),))
        for steps in range(6):
            self.assertEqual(ask_last(*ASSUMED, ("simulate", 0, 0, steps, 7))[0], seed_after(7, 2 * steps))

    def test_a_success_needs_a_draw_below_the_probability(self):
        one = bandit((1, 1))
        for seed, result in ((HALF - 1, 1), (HALF, 0), (HALF + 1, 0)):
            self.check(one + [("set_truth", [500])], ((("simulate", 0, 0, 1, seed_two_before(seed)), [seed, result, 0, result]),))
        for seed in (0, 1, HALF, LAST):
            self.check(one + [("set_truth", [0])], ((("simulate", 0, 0, 1, seed_two_before(seed)), [seed, 0, 0, 0]),))
            self.check(one + [("set_truth", [1000])], ((("simulate", 0, 0, 1, seed_two_before(seed)), [seed, 1, 0, 1]),))
        self.check(one + [("set_truth", [1])], (
            (("simulate", 0, 0, 1, seed_two_before(2147483)), [2147483, 1, 0, 1]),
            (("simulate", 0, 0, 1, seed_two_before(2147484)), [2147484, 0, 0, 0])))

    def test_the_chosen_arm_has_its_own_probability(self):
        before = THREE + [("set_truth", [0, 1000, 0])]
        for step, trials in enumerate(([], [0, 0], [0, 0, 1, 1], [0, 0, 1, 1, 2, 0])):
            successes = 1 if step > 1 else 0
            self.check(before, ((("simulate", 3, 1, step, 5), [seed_after(5, 2 * step), successes] + trials),))

    def test_trials_change_the_choices(self):
        # Arm 1 fails, then both are equal, and arm 0 is the greedy one; it fails, and arm 1 is.
        self.check(TWO + [("set_truth", [0, 0])], (
            (("simulate", 0, 0, 3, 8), [seed_after(8, 6), 0, 1, 0, 0, 0, 1, 0]),))
        self.check(TWO + [("set_truth", [0, 1000])], (
            (("simulate", 0, 0, 3, 8), [seed_after(8, 6), 3, 1, 1, 1, 1, 1, 1]),))
        # First explore counts the trials of the simulation, and the recorded ones.
        before = EVEN + [("set_truth", [1000, 1000])]
        self.check(before, ((("simulate", 3, 2, 4, 8), [seed_after(8, 8), 4, 0, 1, 0, 1, 1, 1, 1, 1]),))
        self.check(before + [("record", 0, 1)], (
            (("simulate", 3, 2, 3, 8), [seed_after(8, 6), 3, 0, 1, 1, 1, 1, 1]),))

    def test_no_steps(self):
        for seed in SEEDS:
            for policy in range(6):
                self.check(ASSUMED, ((("simulate", policy, 1, 0, seed), [seed, 0]),))

    def test_it_changes_nothing(self):
        before = ASSUMED + [("record", 1, 0)]
        asked = [("history",), ("status",), ("arm_info", 0), ("arm_info", 1), ("propensities", 4, 0),
                 ("expected_reward", 5, 0, 2), ("undo",), ("undo",)]
        for policy in range(6):
            found = ask(*before, ("simulate", policy, 500, 3, 4), ("simulate", policy, 500, 3, 4), *asked)
            self.assertEqual(found[-len(asked):], ask(*before, *asked)[-len(asked):])
            self.assertEqual(found[-len(asked) - 1], found[-len(asked) - 2])

    def test_forty_trials_are_no_limit(self):
        full = bandit((1, 1), trials=((0, 1),) * 40) + [("set_truth", [1000])]
        self.check(full, ((("simulate", 0, 0, 5, 0), [seed_after(0, 10), 5] + [0, 1] * 5),))

    def test_by_the_model(self):
        numbers = Numbers(23)
        for before in (ASSUMED, THREE + [("set_truth", [300, 500, 700])],
                       bandit((3, 2), (4, 3), (2, 2), trials=((0, 0), (1, 1))) + [("set_truth", [999, 1, 500])]):
            for policy in range(6):
                calls = [("simulate", policy, numbers.one_of((0, 1, 2, 500, 1000)), 3 if policy == 4 else 5, seed)
                         for seed in SEEDS]
                self.check_by_the_model(before, calls)


class Run(Case):

    def test_the_trials_of_the_simulation_are_recorded(self):
        self.assertEqual(ask(*ASSUMED, ("run", 5, 0, 1, 0), ("history",), ("arm_info", 0), ("arm_info", 1))[4:],
                         [[1406932606, 0], [1, 0, 0], [1, 1, 0, 1], [2, 1, 0, 0]])
        for policy in range(6):
            for seed in SEEDS:
                rest = (policy, 500, 3, seed)
                found = ask(*ASSUMED, ("record", 1, 1), ("simulate", *rest), ("run", *rest), ("history",), ("status",))
                last, successes, trials = trials_in(found[5])
                self.assertEqual(found[6], [last, successes])
                self.assertEqual(trials_in([0] + found[7]), (0, 4, [(1, 1)] + trials))
                self.assertEqual(found[8], [2, 4, 1 + successes, 1])

    def test_one_run_behind_another(self):
        # Two runs of two steps are one of four, if the second begins with the first one's last seed.
        for policy in (0, 1, 2, 3, 5):
            first = ask_last(*ASSUMED, ("run", policy, 2, 2, 77))
            both = ask(*ASSUMED, ("run", policy, 2, 2, 77), ("run", policy, 2, 2, first[0]), ("history",))
            whole = ask(*ASSUMED, ("run", policy, 2, 4, 77), ("history",))
            self.assertEqual(both[-1], whole[-1])
            self.assertEqual([both[-2][0], first[1] + both[-2][1]], whole[-2])

    def test_trials_of_a_run_are_taken_back_one_by_one(self):
        before = THREE + [("set_truth", [0, 1000, 0]), ("run", 3, 1, 3, 5)]
        self.assertEqual(ask(*before, *[("undo",)] * 4)[-4:], [[2, 2, 0], [1, 1, 1], [0, 0, 0], [-33]])

    def test_no_steps(self):
        for seed in SEEDS:
            for policy in range(6):
                self.assertEqual(ask(*ASSUMED, ("run", policy, 1, 0, seed), ("history",))[-2:], [[seed, 0], [0]])

    def test_forty_trials_are_the_most(self):
        before = bandit((1, 1)) + [("set_truth", [1000])] + [("run", 0, 0, 5, 3)] * 8
        found = ask(*before, ("status",), ("run", 0, 0, 1, 3), ("run", 0, 0, 5, 3), ("run", 0, 0, 0, 3),
                    ("record", 0, 1), ("history",), ("undo",), ("run", 0, 0, 2, 3), ("run", 0, 0, 1, 3), ("status",))
        last = seed_after(3, 10)
        self.assertEqual(found[3:], [[last, 5]] * 8 + [
            [1, 40, 40, 1], [-28], [-28], [3, 0], [-28], [40] + [0, 1] * 40, [39, 0, 1], [-28], [seed_after(3, 2), 1],
            [1, 40, 40, 1]])
        for count in range(34, 41):
            before = bandit((1, 1), trials=((0, 0),) * count) + [("set_truth", [1000])]
            for steps in range(6):
                found = ask(*before, ("run", 0, 0, steps, 3), ("status",))
                if count + steps > 40:
                    self.assertEqual(found[-2:], [[-28], [1, count, 0, 1]], (count, steps))
                else:
                    self.assertEqual(found[-2:], [[seed_after(3, 2 * steps), steps], [1, count + steps, steps, 1]])

    def test_too_many_trials_come_last_of_all(self):
        full = bandit((1, 1), trials=((0, 0),) * 40)
        self.check(full, ((("run", 6, 0, 1, 3), [-22]), (("run", 0, 1001, 1, 3), [-22]), (("run", 0, 0, 6, 3), [-22]),
                          (("run", 4, 0, 4, 3), [-22]), (("run", 0, 0, 1, 3), [-16]), (("run", 0, 0, 0, 3), [-16])))
        self.check(full + [("set_truth", [1])], (
            (("run", 6, 0, 1, 3), [-22]), (("run", 0, 0, 6, 3), [-22]), (("run", 4, 0, 4, 3), [-22]),
            (("run", 0, 0, 1, 3), [-28]), (("run", 4, 0, 3, GREATEST), [-28]), (("run", 0, 0, 0, 3), [3, 0])))

    def test_by_the_model(self):
        for policy in range(6):
            steps = 3 if policy == 4 else 5
            calls = THREE + [("set_truth", [400, 500, 600])]
            calls += [("run", policy, 3, steps, 1000 * seed) for seed in range(6)] + [("history",), ("status",)]
            self.assertEqual(ask(*calls), expected(*calls))


class Both(Case):
    """What simulate and run have in common."""

    def test_the_greatest_steps(self):
        for name in ("simulate", "run"):
            for policy in range(6):
                most = 3 if policy == 4 else 5
                self.assertEqual(ask_last(*ASSUMED, (name, policy, 0, most, 9))[0], seed_after(9, 2 * most))
                for steps in (most + 1,) + FAR:
                    self.check(ASSUMED, (((name, policy, 0, steps, 9), [-22]),))

    def test_errors_in_their_order(self):
        wrong = [(policy, 0, 0) for policy in FAR] + [(policy, 1001, 1) for policy in range(6)]
        wrong += [(0, 0, 6), (4, 0, 4), (6, 1001, 6), (5, GREATEST, 5), (5, 0, GREATEST)]
        right = [(0, 0, 0), (0, 0, 5), (4, 1000, 3), (5, 7, 1)]
        for name in ("simulate", "run"):
            for seed in (0, GREATEST):
                for rest in wrong:
                    self.check((), (((name, *rest, seed), [-11]),))
                    self.check(bandit(), (((name, *rest, seed), [-22]),))
                    self.check(TWO, (((name, *rest, seed), [-22]),))
                    self.check(ASSUMED, (((name, *rest, seed), [-22]),))
                for rest in right:
                    self.check((), (((name, *rest, seed), [-11]),))
                    self.check(bandit(), (((name, *rest, seed), [-33]),))
                    self.check(bandit() + [("set_truth", [])], (((name, *rest, seed), [-33]),))
                    self.check(TWO, (((name, *rest, seed), [-16]),))
                    self.check(ASSUMED + [("add_arm", 1, 1)], (((name, *rest, seed), [-16]),))
                    self.assertGreaterEqual(ask_last(*ASSUMED, (name, *rest, seed))[0], 0)


if __name__ == "__main__":
    unittest.main()
