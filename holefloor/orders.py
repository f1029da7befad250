"""Orders: how the ends stand round each place."""

from holefloor.errors import NoOrder
from holefloor.plain import is_row, is_whole
from holefloor.webs import ends_at, place_of


def order_of(web, rows):
    """The order of the web that has these rows of ends, or NoOrder."""
    if not is_row(rows) or len(rows) != web[0]:
        raise NoOrder("an order is a list or tuple with a row for each place")
    return tuple([row_of(ends_at(web, place), row) for place, row in enumerate(rows)])


def row_of(ends, row):
    """The row, which is to have just these rising ends, begun with the least one, or NoOrder."""
    if not is_row(row) or not all([is_whole(end) for end in row]):
        raise NoOrder("a place's row is a list or tuple of ends")
    if sorted(row) != ends:
        raise NoOrder("a place's row has each of the place's ends once, and nothing else")
    return least_first(row)


def least_first(ends):
    """The ends, which stand in a round, as a tuple begun with the least one."""
    if not ends:
        return ()
    at = ends.index(min(ends))
    return tuple(ends[at:] + ends[:at])


def follower(web, order, end):
    """The end behind this one at its place."""
    row = order[place_of(web, end)]
    return row[(row.index(end) + 1) % len(row)]


def forerunner(web, order, end):
    """The end ahead of this one at its place."""
    row = order[place_of(web, end)]
    return row[row.index(end) - 1]


def mirrored(order):
    """The order with the ends turned about at each place."""
    return tuple([turned_about(row) for row in order])


def turned_about(row):
    """The row gone the other way about."""
    return least_first(row[::-1])
