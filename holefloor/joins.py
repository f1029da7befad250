"""Webs joined at a place or by a tie, and their orders joined."""

from holefloor.errors import NoPlace, TooGreat
from holefloor.webs import MOST_PLACES, MOST_TIES, is_place


def joined_at(one, place, other, its):
    """The web joined to the other one at a place of each; NoPlace, then TooGreat."""
    refuse_no_places(one, place, other, its)
    many = one[0] + other[0] - 1
    numbers = list(range(one[0], many))
    numbers.insert(its, place)
    return web_within(many, one[1] + ties_moved(other, numbers))


def joined_by(one, place, other, its):
    """The web joined to the other one by a tie between a place of each; NoPlace, then TooGreat."""
    refuse_no_places(one, place, other, its)
    many = one[0] + other[0]
    numbers = list(range(one[0], many))
    return web_within(many, one[1] + ties_moved(other, numbers) + ((place, numbers[its]),))


def refuse_no_places(one, place, other, its):
    """NoPlace where one of the things is no place of its web."""
    if not is_place(one, place):
        raise NoPlace("the first place is none of its web")
    if not is_place(other, its):
        raise NoPlace("the second place is none of its web")


def ties_moved(web, numbers):
    """The ties of the web, its places numbered so."""
    return tuple([(numbers[a], numbers[b]) for a, b in web[1]])


def web_within(many, ties):
    """The web of so many places and of these ties, or TooGreat."""
    if many > MOST_PLACES or len(ties) > MOST_TIES:
        raise TooGreat(f"a web has at most {MOST_PLACES} places and {MOST_TIES} ties")
    return (many, ties)


def orders_joined(one, order, place, other, its_order, its):
    """The order of the web joined at a place of each that both orders make; NoPlace, then TooGreat."""
    # What the webs are refused for their orders are refused for, too.
    joined_at(one, place, other, its)
    ends = 2 * len(one[1])
    moved = [tuple([ends + end for end in row]) for row in its_order]
    common = order[place] + moved.pop(its)
    return order[:place] + (common,) + order[place + 1:] + tuple(moved)
