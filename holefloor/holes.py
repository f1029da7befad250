"""Holes of an order, of the whole web and of each part."""

from holefloor.faces import faces
from holefloor.webs import parts_of, place_of


def holes(web, order):
    """How many holes the order has."""
    return lacking(web, len(faces(web, order))) // 2


def lacking(web, faces_many):
    """Twice the parts, less the places, the ties added, less so many faces."""
    many, ties = web
    return 2 * len(parts_of(web)) - many + len(ties) - faces_many


def holes_by_parts(web, order):
    """How many holes each part has, in the order of the parts."""
    told = faces(web, order)
    return [holes_of_part(web, told, part) for part in parts_of(web)]


def holes_of_part(web, told, part):
    """How many holes the part has, where these faces are told of the whole web."""
    ties = [a for a, b in web[1] if a in part]
    # A part without ties is one place, whose face () doesn't tell where it is.
    if not ties:
        return 0
    own = [face for face in told if face and place_of(web, face[0]) in part]
    return (2 - len(part) + len(ties) - len(own)) // 2
