"""Webs: places, ties, ends, parts and rank."""

from holefloor.errors import Apart, NoWeb
from holefloor.plain import is_row, is_whole

MOST_PLACES = 25
MOST_TIES = 24


def web_of(many, ties):
    """The web of so many places and of these ties, or NoWeb."""
    if not is_whole(many) or not 1 <= many <= MOST_PLACES:
        raise NoWeb(f"a web has from 1 to {MOST_PLACES} places")
    if not is_row(ties) or len(ties) > MOST_TIES:
        raise NoWeb(f"ties are a list or tuple of at most {MOST_TIES}")
    return (many, tuple([tie_of(many, tie) for tie in ties]))


def tie_of(many, tie):
    """The tie as a tuple of two of so many places, or NoWeb."""
    if not is_row(tie) or len(tie) != 2:
        raise NoWeb("a tie is a list or tuple of two places")
    for place in tie:
        if not is_whole(place) or not 0 <= place < many:
            raise NoWeb("a tie leads from a place of the web to a place of it")
    return tuple(tie)


def is_place(web, place):
    """Whether the thing is a place of the web."""
    return is_whole(place) and 0 <= place < web[0]


def is_tie(web, tie):
    """Whether the thing is the number of a tie."""
    return is_whole(tie) and 0 <= tie < len(web[1])


def ends_at(web, place):
    """The ends at the place, as a rising list."""
    return [end for end in range(2 * len(web[1])) if place_of(web, end) == place]


def place_of(web, end):
    """The place at which the end is."""
    return web[1][end // 2][end % 2]


def parts_of(web):
    """The lists of places that hang together, each rising, sorted."""
    many, ties = web
    # Each place bears the least place of its part, as far as the ties gone through tell.
    firsts = list(range(many))
    for a, b in ties:
        low = min(firsts[a], firsts[b])
        high = max(firsts[a], firsts[b])
        firsts = [low if first == high else first for first in firsts]
    return [
        [place for place in range(many) if firsts[place] == first]
        for first in sorted(set(firsts))
    ]


def rank_of(web):
    """The number of ties, less that of places, that of parts added."""
    many, ties = web
    return len(ties) - many + len(parts_of(web))


def refuse_parts(web):
    """Apart where the web has several parts."""
    if len(parts_of(web)) > 1:
        raise Apart("the web has several parts")
