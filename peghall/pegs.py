"""Pegs, and looking for a coat.

A rack is a list of pegs: each holds the number of a coat, or None where it is free.
"""


def own_peg(number, size):
    """The own peg of a coat on a rack of size pegs."""
    return number % size


def peg_behind(peg, size):
    """The peg that comes behind this one, going on round the hall."""
    return (peg + 1) % size


def coats_of(rack):
    """The coats that hang on a rack, from peg nought on."""
    return [coat for coat in rack if coat is not None]


def first_free(rack, peg):
    """The first free peg from this one on round the hall."""
    while rack[peg] is not None:
        peg = peg_behind(peg, len(rack))
    return peg


def peg_of(rack, number):
    """The peg where the coat hangs; None where it isn't there."""
    peg = own_peg(number, len(rack))
    # A sound rack has a free peg, so this comes to an end.
    while rack[peg] is not None:
        if rack[peg] == number:
            return peg
        peg = peg_behind(peg, len(rack))
    return None


def way_of(rack, number):
    """How many pegs the coat hangs on from its own; None where it isn't there."""
    peg = peg_of(rack, number)
    if peg is None:
        return None
    # The remainder mends the way of a coat that hangs beyond the last peg.
    return (peg - own_peg(number, len(rack))) % len(rack)
