"""What there is on a chip, and what of its changes can be taken back and done again."""

from clocktree.refusals import NO_CHANGE

NEW = 0
UNDO = 10
MOST_TAKEN_BACK = 20


class Chip:
    """The source, the leaves, the plan's pairs or None, and what is built or None: the chip's state.

    States are kept, the next one at the end: earlier has one for each change that can be taken back, later one for
    each that can be done again. They stay as they are, since what a chip holds is replaced, never changed in place.
    """

    def __init__(self):
        self.source = (0, 0)
        self.leaves = []
        self.plan = None
        self.built = None
        self.earlier = []
        self.later = []


def state_of(chip):
    return (chip.source, chip.leaves, chip.plan, chip.built)


def put_back(chip, state):
    chip.source = state[0]
    chip.leaves = state[1]
    chip.plan = state[2]
    chip.built = state[3]


def remember(chip, before):
    """A change was made: the state before it can be put back, and nothing can be done again any more."""
    chip.earlier = (chip.earlier + [before])[-MOST_TAKEN_BACK:]
    chip.later = []


def answer_new(chip):
    put_back(chip, state_of(Chip()))
    chip.earlier = []
    chip.later = []
    return [0]


def answer_undo(chip):
    if len(chip.earlier) == 0:
        return [NO_CHANGE]
    chip.later = chip.later + [state_of(chip)]
    put_back(chip, chip.earlier[-1])
    chip.earlier = chip.earlier[:-1]
    return [len(chip.earlier)]


def answer_redo(chip):
    if len(chip.later) == 0:
        return [NO_CHANGE]
    chip.earlier = chip.earlier + [state_of(chip)]
    put_back(chip, chip.later[-1])
    chip.later = chip.later[:-1]
    return [len(chip.later)]


def answer_state(chip, call):
    """The calls that put another state in the place of all there is: new, undo, redo."""
    if call == NEW:
        return answer_new(chip)
    if call == UNDO:
        return answer_undo(chip)
    return answer_redo(chip)
