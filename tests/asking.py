"""Calls by their names, and answers taken apart: the tests' way to the program."""

from clocktree.clock import answers

P = 256


def new():
    return [0]


def source(s, t):
    return [1, s, t]


def leaf(s, t, late=0, need=1):
    return [2, s, t, late, need]


def move(k, s, t, late=0, need=1):
    return [3, k, s, t, late, need]


def drop(k):
    return [4, k]


def shape(*pairs):
    return [5, len(pairs), *pairs]


def plan(by=0):
    return [6, by]


def build():
    return [7]


def mend():
    return [8]


def retie():
    return [9]


def flat(calls):
    return [number for call in calls for number in call]


def apart(told):
    """The list that is given back as one list for each call."""
    parted = []
    at = 0
    while at < len(told):
        parted.append(told[at + 1:at + 1 + told[at]])
        assert len(parted[-1]) == told[at], "a count beyond the end"
        at += 1 + told[at]
    return parted


def ask(*calls):
    """The answers to these calls, a list for each."""
    told = apart(answers(flat(calls)))
    assert len(told) == len(calls), (told, calls)
    return told


def last(*calls):
    return ask(*calls)[-1]
