"""Draws from a seed, and the trials that they lead a policy to."""

from armchoice.arms import arms_after
from armchoice.policies import policy_shares

# 2^31: a draw is a seed below it, divided by it.
SEEDS = 2147483648


def next_seed(seed):
    return (1103515245 * seed + 12345) % SEEDS


# The seed is the draw's own one here, not the one before: so a draw is always less than 1.
def arm_of_draw(shares, seed):
    whole = sum(shares)
    place = 0
    reached = shares[0]
    while reached * SEEDS <= seed * whole:
        place += 1
        reached += shares[place]
    return place


class Simulation:

    def __init__(self, seed):
        self.seed = seed
        self.trials = []

    def draw(self):
        self.seed = next_seed(self.seed)
        return self.seed

    def go(self, policy, parameter, arms, steps, truth):
        for step in range(steps):
            place = arm_of_draw(policy_shares(policy, parameter, arms), self.draw())
            result = 0
            if self.draw() * 1000 < truth[place] * SEEDS:
                result = 1
            self.trials.append((place, result))
            arms = arms_after(arms, place, result)

    def success_count(self):
        return sum([result for place, result in self.trials])
