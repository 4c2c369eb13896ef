"""Calls by their names, and answers taken apart: the tests' way to the program."""

from clocktree.clock import answers

P = 256


def new():
    return [0]


def source(s, t):
    return [1, s, t]


def leaf(s, t, late=0, need=1):
    return [2, s, t, late, need]


def move(k, s, t, late=0, need=1):
    return [3, k, s, t, late, need]


def drop(k):
    return [4, k]


def shape(*pairs):
    return [5, len(pairs), *pairs]


def plan(by=0):
    return [6, by]


def build():
    return [7]


def mend():
    return [8]


def retie():
    return [9]


def undo():
    return [10]


def redo():
    return [11]


def told():
    return [12]


def sums():
    return [13]


def ends():
    return [14]


def when(k):
    return [15, k]


def joint(k):
    return [16, k]


def short():
    return [17]


def anew():
    return [18]


def ticking(i):
    return [19, i]


# All that can be told, of leaves, joints and steps that are not there as well.
TELLINGS = (told(), sums(), ends(), short(), anew(), *[when(k) for k in range(9)], *[joint(k) for k in range(8)],
            *[ticking(i) for i in range(17)])


def flat(calls):
    return [number for call in calls for number in call]


def apart(given):
    """The list that is given back as one list for each call."""
    parted = []
    at = 0
    while at < len(given):
        parted.append(given[at + 1:at + 1 + given[at]])
        assert len(parted[-1]) == given[at], "a count beyond the end"
        at += 1 + given[at]
    return parted


def ask(*calls):
    """The answers to these calls, a list for each."""
    given = apart(answers(flat(calls)))
    assert len(given) == len(calls), (given, calls)
    return given


def last(*calls):
    return ask(*calls)[-1]


def behind(calls, *further):
    """The answers to the further calls alone."""
    return ask(*calls, *further)[len(calls):]
