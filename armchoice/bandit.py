"""What is kept from one operation to the next."""

from armchoice.arms import Arm
from armchoice.refusals import NoSuchArm


# Successes and failures are counted anew from the trials, so that they can't differ from them.
class Bandit:

    def __init__(self):
        self.parameters = []
        self.trials = []
        self.truth = []

    def arm_count(self):
        return len(self.parameters)

    # Without arms nothing is left to be assumed.
    def has_truth(self):
        return len(self.truth) == self.arm_count()

    def check_arm(self, place):
        if place >= self.arm_count():
            raise NoSuchArm()

    def arm_at(self, place):
        self.check_arm(place)
        pair = self.parameters[place]
        return Arm(pair[0], pair[1], self.trials.count((place, 1)), self.trials.count((place, 0)))

    def all_arms(self):
        return [self.arm_at(place) for place in range(self.arm_count())]
