"""Floors seen from their faces."""

from holefloor.errors import TooGreat
from holefloor.faces import faces
from holefloor.webs import MOST_PLACES


def seen(web, order):
    """The floor whose places are the faces of this one, or TooGreat."""
    rows = faces(web, order)
    if len(rows) > MOST_PLACES:
        raise TooGreat(f"a web has at most {MOST_PLACES} places")
    return floor_by(rows)


def floor_by(rows):
    """The floor of which these are the tuples of the order, place by place."""
    places = {end: place for place, row in enumerate(rows) for end in row}
    ties = [(places[end], places[end + 1]) for end in range(0, len(places), 2)]
    return ((len(rows), tuple(ties)), tuple(rows))
