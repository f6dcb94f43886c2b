"""The rows of DOC.md's examples that use the calls 0 to 13, on one object."""

import unittest

from armchoice.covers import answers
from helper import ask

BEFORE_TRUTH = (
    (("create",), [0]),
    (("add_arm", 1, 1), [0]),
    (("add_arm", 2, 1), [1]),
    (("mean", 1), [0, 2, 3]),
    (("variance", 0), [0, 1, 12]),
    (("best_probability", 0), [0, 1, 3]),
    (("compare", 1, 0), [0, 2, 3]),
    (("expected_max",), [0, 3, 4]),
    (("exceed", 1, 1, 2), [0, 3, 4]),
    (("index", 0, 1), [0, 2, 3]),
    (("propensities", 0, 0), [2, 0, 1, 1, 1]),
    (("propensities", 2, 500), [2, 1, 4, 3, 4]),
    (("propensities", 4, 0), [2, 1, 3, 2, 3]),
    (("propensities", 3, 1), [2, 1, 1, 0, 1]),
    (("set_truth", [600, 500]), [0]),
)
# In the document the run ahead of these rows records this one trial.
RUN = ((("record", 0, 0), [1]),)
AFTER_RUN = (
    (("arm_info", 0), [1, 1, 0, 1]),
    (("undo",), [0, 0, 0]),
    (("undo",), [-33]),
    (("record", 1, 1), [1]),
    (("mean", 1), [0, 3, 4]),
    (("add_arm", 21, 1), [-22]),
    (("add_arm", 1, 1), [2]),
)
WITHOUT_RUN = (
    (("arm_info", 0), [1, 1, 0, 0]),
    (("undo",), [-33]),
) + AFTER_RUN[2:]


class Examples(unittest.TestCase):

    def check(self, rows):
        found = ask(*[call for call, answer in rows])
        for (call, answer), answered in zip(rows, found):
            self.assertEqual(answered, answer, call)

    def test_rows_with_the_trial_of_the_run(self):
        self.check(BEFORE_TRUTH + RUN + AFTER_RUN)

    def test_rows_alone(self):
        self.check(BEFORE_TRUTH + WITHOUT_RUN)

    def test_rows_as_they_are_handed_in_and_given_back(self):
        calls = [0, 1, 1, 1, 1, 2, 1, 6, 1, 7, 0, 9, 0, 10, 1, 0, 11, 8, 1, 1, 2, 12, 0, 1, 13, 0, 0,
                 13, 2, 500, 13, 4, 0, 13, 3, 1, 4, 2, 600, 500, 2, 0, 0, 5, 0, 3, 3]
        self.assertEqual(answers(calls), [
            1, 0, 1, 0, 1, 1, 3, 0, 2, 3, 3, 0, 1, 12, 3, 0, 1, 3, 3, 0, 2, 3, 3, 0, 3, 4, 3, 0, 3, 4,
            3, 0, 2, 3, 5, 2, 0, 1, 1, 1, 5, 2, 1, 4, 3, 4, 5, 2, 1, 3, 2, 3, 5, 2, 1, 1, 0, 1, 1, 0,
            1, 1, 4, 1, 1, 0, 1, 3, 0, 0, 0, 1, -33])


if __name__ == "__main__":
    unittest.main()
