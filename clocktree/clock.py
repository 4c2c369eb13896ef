"""Calls handed in as one list of whole numbers, and their answers likewise."""

from clocktree.changes import answer_change
from clocktree.chip import Chip, answer_state
from clocktree.telling import answer_telling

FIRST_CHANGE = 1
SHAPE = 5
LAST_CHANGE = 9
FIRST_TELLING = 12

# How many whole numbers each call has; that of shape stands in the list itself.
COUNTS = {
    0: 0, 1: 2, 2: 4, 3: 5, 4: 1, 6: 1, 7: 0, 8: 0, 9: 0,
    10: 0, 11: 0, 12: 0, 13: 0, 14: 0, 15: 1, 16: 1, 17: 0, 18: 0, 19: 1,
}


def numbers_begin(calls, at):
    return at + 2 if calls[at] == SHAPE else at + 1


def numbers_end(calls, at):
    count = calls[at + 1] if calls[at] == SHAPE else COUNTS[calls[at]]
    return numbers_begin(calls, at) + count


def answer_call(chip, call, numbers):
    if FIRST_CHANGE <= call <= LAST_CHANGE:
        return answer_change(chip, call, numbers)
    if call >= FIRST_TELLING:
        return answer_telling(chip, call, numbers)
    return answer_state(chip, call)


def answers(calls):
    """For each call in order: how many numbers are answered, then these."""
    chip = Chip()
    told = []
    at = 0
    while at < len(calls):
        end = numbers_end(calls, at)
        answer = answer_call(chip, calls[at], calls[numbers_begin(calls, at):end])
        told.append(len(answer))
        told.extend(answer)
        at = end
    return told
