"""Hanging coats, taking them, and changing the rack: each gives back a new rack."""

from peghall.pegs import coats_of, first_free, own_peg, peg_behind, peg_of


def hung(rack, number):
    """The rack behind the hanging of a coat that isn't there."""
    behind = list(rack)
    peg = first_free(rack, own_peg(number, len(rack)))
    behind[peg] = number
    return behind


def taken(rack, number):
    """The rack behind the taking of a coat that is there."""
    behind = list(rack)
    peg = peg_of(rack, number)
    behind[peg] = None
    peg = peg_behind(peg, len(rack))
    # A coat hung anew comes to its old peg at the latest, never to one ahead,
    # so this ends at the peg that was free before.
    while behind[peg] is not None:
        coat = behind[peg]
        behind[peg] = None
        behind = hung(behind, coat)
        peg = peg_behind(peg, len(rack))
    return behind


def changed(rack, size):
    """The rack of size pegs, more than there are coats, for which a rack is changed."""
    behind = [None] * size
    for coat in coats_of(rack):
        behind = hung(behind, coat)
    return behind
