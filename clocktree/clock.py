"""Calls handed in as one list of whole numbers, and their answers likewise."""

from clocktree.changes import Chip, answer_change

SHAPE = 5

# How many whole numbers each call has; that of shape stands in the list itself.
COUNTS = {0: 0, 1: 2, 2: 4, 3: 5, 4: 1, 6: 1, 7: 0, 8: 0, 9: 0}


def numbers_begin(calls, at):
    return at + 2 if calls[at] == SHAPE else at + 1


def numbers_end(calls, at):
    count = calls[at + 1] if calls[at] == SHAPE else COUNTS[calls[at]]
    return numbers_begin(calls, at) + count


def answers(calls):
    """For each call in order: how many numbers are answered, then these."""
    chip = Chip()
    told = []
    at = 0
    while at < len(calls):
        end = numbers_end(calls, at)
        answer = answer_change(chip, calls[at], calls[numbers_begin(calls, at):end])
        told.append(len(answer))
        told.extend(answer)
        at = end
    return told
