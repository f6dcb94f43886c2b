"""The package's one way in: calls as a list of whole numbers, and their answers as another."""

from armchoice.bandit import Bandit
from armchoice.operations import operate
from armchoice.refusals import Refusal

CREATE = 0
SET_TRUTH = 4

# How many numbers follow the number of a call; for set_truth this stands in the list itself.
ARGUMENT_COUNTS = (0, 2, 2, 0, None, 1, 1, 1, 3, 1, 2, 0, 2, 2, 3, 1, 2, 3, 3, 3, 3, 1, 1, 4, 4, 0, 0)


def split_calls(calls):
    parts = []
    place = 0
    while place < len(calls):
        number = calls[place]
        start = place + 1
        if number == SET_TRUTH:
            length = calls[start]
            start += 1
        else:
            length = ARGUMENT_COUNTS[number]
        place = start + length
        parts.append((number, calls[start:place]))
    return parts


def answer(bandit, number, arguments):
    try:
        return operate(bandit, number, arguments)
    except Refusal as refusal:
        return [refusal.code]


def answers(calls):
    bandit = None
    numbers = []
    for number, arguments in split_calls(calls):
        if number == CREATE:
            bandit = Bandit()
        answered = answer(bandit, number, arguments)
        numbers.append(len(answered))
        numbers.extend(answered)
    return numbers
