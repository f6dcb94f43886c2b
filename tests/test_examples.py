"""The examples of DOC.md, as one list of calls on one object."""

import unittest

from armchoice.covers import answers
from helper import ask, hand_in

EXAMPLES = (
    (("create",), [0]),
    (("add_arm", 1, 1), [0]),
    (("add_arm", 2, 1), [1]),
    (("mean", 1), [0, 2, 3]),
    (("variance", 0), [0, 1, 12]),
    (("best_probability", 0), [0, 1, 3]),
    (("compare", 1, 0), [0, 2, 3]),
    (("expected_max",), [0, 3, 4]),
    (("exceed", 1, 1, 2), [0, 3, 4]),
    (("index", 0, 1), [0, 2, 3]),
    (("propensities", 0, 0), [2, 0, 1, 1, 1]),
    (("propensities", 2, 500), [2, 1, 4, 3, 4]),
    (("propensities", 4, 0), [2, 1, 3, 2, 3]),
    (("propensities", 3, 1), [2, 1, 1, 0, 1]),
    (("optimal", 2), [0, 4, 3]),
    (("choice_value", 0, 2), [0, 7, 6]),
    (("policy_value", 0, 0, 2), [0, 4, 3]),
    (("policy_value", 5, 0, 1), [0, 7, 12]),
    (("information", 0), [0, 0, 1]),
    (("set_truth", [600, 500]), [0]),
    (("expected_reward", 0, 0, 2), [0, 21, 20]),
    (("regret", 0, 0, 1), [0, 1, 10]),
    (("expected_pulls", 5, 0, 2), [2, 1, 1, 1, 1]),
    (("eliminate", 400), [1, 0]),
    (("draw", 5, 0, 0), [0, 1, 2]),
    (("simulate", 5, 0, 1, 0), [1406932606, 0, 0, 0]),
    (("run", 5, 0, 1, 0), [1406932606, 0]),
    (("arm_info", 0), [1, 1, 0, 1]),
    (("history",), [1, 0, 0]),
    (("undo",), [0, 0, 0]),
    (("undo",), [-33]),
    (("record", 1, 1), [1]),
    (("mean", 1), [0, 3, 4]),
    (("add_arm", 21, 1), [-22]),
    (("add_arm", 1, 1), [2]),
    (("regret", 0, 0, 1), [-16]),
    (("policy_value", 4, 0, 4), [-22]),
    (("status",), [3, 1, 1, 0]),
)
HANDED_IN = [
    0, 1, 1, 1, 1, 2, 1, 6, 1, 7, 0, 9, 0, 10, 1, 0, 11, 8, 1, 1, 2, 12, 0, 1, 13, 0, 0, 13, 2, 500, 13, 4, 0,
    13, 3, 1, 15, 2, 16, 0, 2, 17, 0, 0, 2, 17, 5, 0, 1, 21, 0, 4, 2, 600, 500, 18, 0, 0, 2, 19, 0, 0, 1, 20, 5, 0, 2,
    22, 400, 14, 5, 0, 0, 23, 5, 0, 1, 0, 24, 5, 0, 1, 0, 5, 0, 25, 3, 3, 2, 1, 1, 6, 1, 1, 21, 1, 1, 1, 1,
    19, 0, 0, 1, 17, 4, 0, 4, 26]
GIVEN_BACK = [
    1, 0, 1, 0, 1, 1, 3, 0, 2, 3, 3, 0, 1, 12, 3, 0, 1, 3, 3, 0, 2, 3, 3, 0, 3, 4, 3, 0, 3, 4, 3, 0, 2, 3,
    5, 2, 0, 1, 1, 1, 5, 2, 1, 4, 3, 4, 5, 2, 1, 3, 2, 3, 5, 2, 1, 1, 0, 1, 3, 0, 4, 3, 3, 0, 7, 6, 3, 0, 4, 3,
    3, 0, 7, 12, 3, 0, 0, 1, 1, 0, 3, 0, 21, 20, 3, 0, 1, 10, 5, 2, 1, 1, 1, 1, 2, 1, 0, 3, 0, 1, 2,
    4, 1406932606, 0, 0, 0, 2, 1406932606, 0, 4, 1, 1, 0, 1, 3, 1, 0, 0, 3, 0, 0, 0, 1, -33, 1, 1, 3, 0, 3, 4,
    1, -22, 1, 2, 1, -16, 1, -22, 4, 3, 1, 1, 0]


class Examples(unittest.TestCase):

    def test_all_rows_on_one_object(self):
        found = ask(*[call for call, answer in EXAMPLES])
        for (call, answer), answered in zip(EXAMPLES, found):
            self.assertEqual(answered, answer, call)

    def test_as_they_are_handed_in_and_given_back(self):
        self.assertEqual(hand_in([call for call, answer in EXAMPLES]), HANDED_IN)
        self.assertEqual(answers(HANDED_IN), GIVEN_BACK)


if __name__ == "__main__":
    unittest.main()
