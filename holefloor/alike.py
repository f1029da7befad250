"""Floors that are alike, the turnings of a floor, and codes."""

from holefloor.orders import follower
from holefloor.webs import refuse_parts


def alike(one, order, other, its_order):
    """The least renaming of the ends of the one floor to those of the other one, None where there is none; Apart."""
    refuse_parts(one)
    refuse_parts(other)
    told = renamings(one, order, other, its_order)
    return told[0] if told else None


def turnings(web, order):
    """All renamings of the floor to itself, rising; or Apart."""
    refuse_parts(web)
    return renamings(web, order, web, order)


def renamings(one, order, other, its_order):
    """All renamings of the ends of the one floor to those of the other one, rising."""
    if not one[1]:
        return [] if other[1] else [()]
    # Where one end is renamed to tells it of all, and the others are told apart by the first one.
    ends = numbered_from(one, order, 0)
    own = code_by(one, order, ends)
    told = []
    for end in range(2 * len(other[1])):
        its_ends = numbered_from(other, its_order, end)
        if code_by(other, its_order, its_ends) == own:
            told.append(tuple([its_ends[ends.index(old)] for old in range(len(ends))]))
    return told


def numbered_from(web, order, end):
    """The ends as they are numbered from this one on."""
    ends = [end]
    at = 0
    while at < len(ends):
        for come in (ends[at] ^ 1, follower(web, order, ends[at])):
            if come not in ends:
                ends.append(come)
        at += 1
    return ends


def code_by(web, order, ends):
    """The code of the floor where the ends are numbered so."""
    return tuple([(ends.index(end ^ 1), ends.index(follower(web, order, end))) for end in ends])


def code_from(web, order, end):
    """The code of the floor from this end on, or Apart."""
    refuse_parts(web)
    return code_by(web, order, numbered_from(web, order, end))


def code(web, order):
    """The least code of the floor from any of its ends, or Apart."""
    refuse_parts(web)
    return min([code_from(web, order, end) for end in range(2 * len(web[1]))], default=())
