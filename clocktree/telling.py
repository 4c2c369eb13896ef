"""The calls that only tell: each takes the chip and its numbers and answers numbers, and changes nothing."""

from clocktree.building import all_wire, built_from
from clocktree.refusals import NOT_THERE, NO_SUCH_ONE, OUT_OF_BOUNDS
from clocktree.wires import count_short, moments_of, power_of, wire_ticking, wires_of

TOLD = 12
TICKING = 19
LAST_STEP = 15


def wires_now(chip):
    return wires_of(chip.built, chip.leaves, chip.source)


def answer_told(chip):
    if chip.plan is None:
        return [NOT_THERE]
    answer = [2 * len(chip.plan)]
    for pair in chip.plan:
        answer.extend(pair)
    return answer


def answer_sums(chip, numbers):
    return [all_wire(chip.built), power_of(wires_now(chip)), chip.built.trunk]


def answer_ends(chip, numbers):
    moments = moments_of(chip.built, chip.leaves)
    return [min(moments), max(moments)]


def answer_when(chip, numbers):
    number = numbers[0]
    if number >= len(chip.leaves):
        return [NO_SUCH_ONE]
    return [moments_of(chip.built, chip.leaves)[number]]


def answer_joint(chip, numbers):
    at = numbers[0]
    if at >= len(chip.built.pairs):
        return [NO_SUCH_ONE]
    place = chip.built.places[at]
    lengths = chip.built.wires[at]
    return [0, place[0], place[1], lengths[0], lengths[1]]


def answer_short(chip, numbers):
    return [count_short(wires_now(chip))]


def answer_anew(chip, numbers):
    if chip.plan is None:
        return [NO_SUCH_ONE]
    return [all_wire(chip.built), all_wire(built_from(chip.leaves, chip.plan, chip.source))]


def answer_ticking(chip, numbers):
    return [wire_ticking(wires_now(chip), numbers[0])]


OF_BUILT = {
    13: answer_sums,
    14: answer_ends,
    15: answer_when,
    16: answer_joint,
    17: answer_short,
    18: answer_anew,
    19: answer_ticking,
}


def answer_telling(chip, call, numbers):
    if call == TOLD:
        return answer_told(chip)
    # Of all that is told of what is built this alone is refused ahead of there being nothing.
    if call == TICKING and numbers[0] > LAST_STEP:
        return [OUT_OF_BOUNDS]
    if chip.built is None:
        return [NOT_THERE]
    return OF_BUILT[call](chip, numbers)
