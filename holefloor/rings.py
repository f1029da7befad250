"""Rings, and papers that show that no ring is shorter, so that there can't be fewer holes."""

from holefloor.errors import NoRing
from holefloor.holes import lacking
from holefloor.plain import are_wholes, is_whole
from holefloor.webs import parts_of, rank_of, refuse_parts


def ring_bars(web, paper):
    """The holes below which no order comes by the paper, whatever it is; None where it is no right ring paper."""
    return bars_of(web, paper[0]) if is_ring_paper(web, paper) else None


def bars_of(web, shortest):
    """The holes below which no order comes where no ring has fewer ties than this number."""
    faces_most = 2 * len(web[1]) // shortest
    return max(0, (lacking(web, faces_most) + 1) // 2)


def is_ring_paper(web, paper):
    """Whether the thing is a ring paper that is right for the web."""
    if len(parts_of(web)) > 1 or rank_of(web) == 0:
        return False
    if not isinstance(paper, tuple) or len(paper) != 2:
        return False
    shortest, heights = paper
    if not is_whole(shortest) or shortest < 1:
        return False
    if not isinstance(heights, tuple) or len(heights) != len(web[1]):
        return False
    return all([are_heights(web, tie, shortest, row) for tie, row in enumerate(heights)])


def are_heights(web, tie, shortest, row):
    """Whether the thing is a row of heights that shows that no ring through the tie is shorter."""
    if not are_wholes(row) or len(row) != web[0]:
        return False
    a, b = web[1][tie]
    if row[a] != 0 or row[b] < shortest - 1:
        return False
    return all([abs(row[c] - row[d]) <= 1 for c, d in other_ties(web, tie)])


def other_ties(web, tie):
    """All ties but this one."""
    return web[1][:tie] + web[1][tie + 1:]


def ring_paper(web):
    """A right ring paper of the length of a shortest ring; Apart, then NoRing."""
    refuse_parts(web)
    if rank_of(web) == 0:
        raise NoRing("the web has no ring")
    steps = [steps_beside(web, tie) for tie in range(len(web[1]))]
    shortest = min([own[b] + 1 for own, (a, b) in zip(steps, web[1]) if b in own])
    # No other tie leads to a place that is not come to from one that is, so such a place may stand at the top.
    top = shortest - 1
    heights = [tuple([min(top, own.get(place, top)) for place in range(web[0])]) for own in steps]
    return (shortest, tuple(heights))


def steps_beside(web, tie):
    """By places, over how few other ties one comes there from the tie's first place, where one comes there."""
    others = other_ties(web, tie)
    ways = others + tuple([(b, a) for a, b in others])
    steps = {web[1][tie][0]: 0}
    for step in range(1, web[0]):
        for here, there in ways:
            if steps.get(here) == step - 1 and there not in steps:
                steps[there] = step
    return steps
