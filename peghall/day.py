"""A day in the hall: deeds that are done one by one, and their answers."""

from peghall.hanging import changed, hung, taken
from peghall.pegs import coats_of, peg_of

FIRST_SIZE = 5


def is_scarce(rack):
    """Whether the coats are too many for the pegs."""
    return 3 * len(coats_of(rack)) > 2 * len(rack)


def hang(rack, number):
    """The rack behind a hanging, and the answer."""
    if peg_of(rack, number) is not None:
        return (rack, None)
    behind = hung(rack, number)
    if is_scarce(behind):
        behind = changed(behind, 2 * len(behind) + 1)
    # Asked only now, since a change may bring the coat to another peg.
    return (behind, peg_of(behind, number))


def take(rack, number):
    """The rack behind a taking, and the answer."""
    peg = peg_of(rack, number)
    if peg is None:
        return (rack, None)
    return (taken(rack, number), peg)


def done(rack, deed):
    """The rack behind a deed, and the answer."""
    if deed[0] == "hang":
        return hang(rack, deed[1])
    if deed[0] == "take":
        return take(rack, deed[1])
    return (rack, peg_of(rack, deed[1]))


def steps(deeds):
    """The rack at the day's beginning, with None, and then for each deed the rack behind it, with the answer."""
    rack = [None] * FIRST_SIZE
    walked = [(rack, None)]
    for deed in deeds:
        step = done(rack, deed)
        rack = step[0]
        walked.append(step)
    return walked


def answers(deeds):
    """The answers to the deeds of a day."""
    return [step[1] for step in steps(deeds)[1:]]


def rack_behind(deeds):
    """The rack behind a day."""
    return steps(deeds)[-1][0]


def sizes(deeds):
    """For each deed, how many pegs and how many coats there are behind it."""
    return [(len(step[0]), len(coats_of(step[0]))) for step in steps(deeds)[1:]]
