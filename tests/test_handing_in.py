"""The one list that is handed in and the one that is given back."""

import unittest
from math import gcd

from armchoice.covers import answers
from helper import GREATEST, ask, ask_last, bandit, expected, fractions_in, hand_in

EVERYTHING = tuple(bandit((1, 1), (2, 1), (3, 4), trials=((0, 1), (2, 0)))) + (
    ("set_truth", [1, 2, 3]), ("arm_info", 2), ("mean", 1), ("variance", 1), ("exceed", 1, 1, 3),
    ("best_probability", 2), ("compare", 0, 2), ("expected_max",), ("index", 1, 7), ("propensities", 4, 0), ("undo",),
    ("draw", 4, 0, 99), ("optimal", 5), ("choice_value", 2, 3), ("policy_value", 4, 0, 3),
    ("expected_reward", 2, 300, 5), ("regret", 3, 2, 4), ("expected_pulls", 5, 0, 5), ("information", 0),
    ("eliminate", 1000), ("simulate", 1, 10, 5, 77), ("run", 4, 0, 3, GREATEST), ("history",), ("status",))


class Guarded(list):
    """A list that can't be changed."""

    def refuse(self, *arguments, **keywords):
        raise AssertionError("what was handed in is changed")

    __setitem__ = __delitem__ = __iadd__ = __imul__ = refuse
    append = clear = extend = insert = pop = remove = reverse = sort = refuse


class HandingIn(unittest.TestCase):

    def test_the_list_is_unchanged_afterwards(self):
        calls = hand_in(EVERYTHING)
        copy = list(calls)
        answers(calls)
        self.assertEqual(calls, copy)

    def test_the_list_is_not_changed_for_a_while_either(self):
        calls = hand_in(EVERYTHING)
        self.assertEqual(answers(Guarded(calls)), answers(calls))

    def test_another_list_is_given_back_each_time(self):
        calls = hand_in(EVERYTHING)
        first = answers(calls)
        copy = list(first)
        first.clear()
        self.assertEqual(answers(calls), copy)

    def test_a_second_time_knows_nothing_of_the_first(self):
        answers(hand_in(EVERYTHING))
        self.assertEqual(answers([6, 0]), [1, -11])
        self.assertEqual(answers([0, 6, 0]), [1, 0, 1, -2])
        self.assertEqual(answers([0, 3]), [1, 0, 1, -33])
        self.assertEqual(answers([0, 1, 5, 5]), [1, 0, 1, 0])
        self.assertEqual(answers([26, 0, 26, 25]), [1, -11, 1, 0, 4, 0, 0, 0, 1, 1, 0])
        first = answers(hand_in(EVERYTHING))
        answers(hand_in([("create",), ("add_arm", 9, 9), ("set_truth", [1]), ("run", 0, 0, 5, 3)]))
        self.assertEqual(answers(hand_in(EVERYTHING)), first)

    def test_each_answer_has_its_length_ahead(self):
        lengths = [len(answer) for answer in ask(*EVERYTHING)]
        self.assertEqual(lengths, [1, 1, 1, 1, 1, 1, 1, 4, 3, 3, 3, 3, 3, 3, 3, 7, 3,
                                   3, 3, 3, 3, 3, 3, 7, 3, 4, 12, 2, 9, 4])
        self.assertEqual(ask(*EVERYTHING), expected(*EVERYTHING))
        self.assertEqual(answers([0]), [1, 0])
        self.assertEqual(answers([3]), [1, -11])

    def test_a_refusal_is_one_number(self):
        self.assertEqual(answers([0, 1, 0, 1, 2, 0, 0, 3, 11, 13, 6, 0]),
                         [1, 0, 1, -22, 1, -2, 1, -33, 1, -33, 1, -22])
        self.assertEqual(answers([0, 1, 1, 1, 20, 0, 0, 1, 23, 0, 0, 1, 5, 24, 4, 0, 4, 5, 21, 1, 22, 1001]),
                         [1, 0, 1, 0, 1, -16, 1, -16, 1, -22, 1, -2, 1, -22])

    def test_sixty_calls(self):
        calls = bandit((1, 1)) + [("mean", 0)] * 58
        self.assertEqual(ask(*calls), [[0], [0]] + [[0, 1, 2]] * 58)

    def test_three_hundred_numbers(self):
        calls = [("set_truth", [1, 2, GREATEST])] * 60
        self.assertEqual(len(hand_in(calls)), 300)
        self.assertEqual(ask(*calls), [[-11]] * 60)
        calls = bandit((3, 1), (1, 3), (2, 2)) + [("set_truth", [1000, 0, 7])] * 56
        self.assertEqual(ask(*calls), [[0], [0], [1], [2]] + [[0]] * 56)

    def test_rows_of_every_length_are_passed_over_rightly(self):
        for row in ([], [0], [6, 0], [0, 0, 0], [GREATEST] * 3):
            found = ask(("set_truth", row), ("create",), ("set_truth", row), ("add_arm", 2, 3), ("mean", 0))
            self.assertEqual(found, [[-11], [0], [0] if row == [] else [-22], [0], [0, 2, 5]], row)


class Fractions(unittest.TestCase):

    def test_lowest_terms_and_positive_denominators(self):
        calls = bandit((20, 4), (6, 12), (15, 15), trials=((0, 1),) * 4 + ((1, 0),) * 6)
        calls += [("mean", arm) for arm in range(3)] + [("variance", arm) for arm in range(3)]
        calls += [("exceed", arm, 500, 1000) for arm in range(3)] + [("index", arm, 6) for arm in range(3)]
        calls += [("best_probability", arm) for arm in range(3)] + [("compare", 2, 1), ("expected_max",)]
        calls += [("propensities", policy, 500) for policy in range(6)] + [("set_truth", [600, 250, 125])]
        calls += [("expected_pulls", policy, 500, 3) for policy in range(6)]
        calls += [("draw", 2, 500, 9), ("optimal", 4), ("choice_value", 1, 3), ("policy_value", 4, 0, 2),
                  ("expected_reward", 5, 0, 4), ("regret", 2, 250, 5), ("information", 2)]
        count = 0
        for call, answer in zip(calls, ask(*calls)):
            for numerator, denominator in fractions_in(call, answer):
                count += 1
                self.assertGreater(denominator, 0)
                self.assertGreaterEqual(numerator, 0)
                self.assertEqual(gcd(numerator, denominator), 1, (call, answer))
        self.assertEqual(count, 17 + 18 + 18 + 7)

    def test_zero_is_0_1(self):
        self.assertEqual(ask_last(*bandit((2, 3)), ("exceed", 0, 7, 7)), [0, 0, 1])
        self.assertEqual(ask_last(*bandit((2, 3), (3, 2), (1, 9)), ("propensities", 0, 4)), [3, 0, 1, 1, 1, 0, 1])

    def test_one_is_1_1(self):
        self.assertEqual(ask_last(*bandit((2, 3)), ("exceed", 0, 0, 7)), [0, 1, 1])
        self.assertEqual(ask_last(*bandit((2, 3)), ("best_probability", 0)), [0, 1, 1])

    def test_answers_beyond_64_bits(self):
        # (999/1000)^20 and 1 - (1/1000)^20 stand in lowest terms as they are.
        self.assertEqual(ask_last(*bandit((1, 20)), ("exceed", 0, 1, 1000)), [0, 999 ** 20, 1000 ** 20])
        self.assertEqual(ask_last(*bandit((20, 1)), ("exceed", 0, 1, 1000)), [0, 1000 ** 20 - 1, 1000 ** 20])
        calls = bandit((20, 19), (18, 20), (19, 17)) + [("best_probability", 1), ("expected_max",)]
        found = ask(*calls)
        self.assertEqual(found, expected(*calls))
        for answer in found[-2:]:
            self.assertGreater(answer[1], 2 ** 64)
            self.assertGreater(answer[2], 2 ** 64)
        calls = bandit((20, 19), (18, 20), (19, 17)) + [("set_truth", [123, 457, 789]), ("policy_value", 4, 0, 3)]
        calls += [("expected_reward", 4, 0, 3), ("regret", 4, 0, 3), ("expected_pulls", 4, 0, 3)]
        found = ask(*calls)
        self.assertEqual(found, expected(*calls))
        for answer in found[-4:]:
            self.assertGreater(min(answer[1:]), 2 ** 64)


if __name__ == "__main__":
    unittest.main()
