"""Ties put in, taken out and drawn in."""

from holefloor.errors import NoEnd, NoTie, TooGreat
from holefloor.orders import least_first
from holefloor.plain import is_whole
from holefloor.webs import MOST_TIES, is_place, is_tie, place_of


def put_in(web, order, one, other):
    """The floor with a tie put in from one corner to the other one; NoEnd, then TooGreat."""
    many, ties = web
    first = corner_place(web, order, one)
    second = corner_place(web, order, other)
    if len(ties) >= MOST_TIES:
        raise TooGreat(f"a web has at most {MOST_TIES} ties")
    end = 2 * len(ties)
    rows = list(order)
    rows[first] = row_with(rows[first], one, end)
    rows[second] = row_with(rows[second], other, end + 1)
    return ((many, ties + ((first, second),)), tuple(rows))


def corner_place(web, order, corner):
    """The place at which the corner is, or NoEnd."""
    if is_whole(corner) and 0 <= corner < 2 * len(web[1]):
        return place_of(web, corner)
    if isinstance(corner, tuple) and len(corner) == 2 and corner[0] == "place":
        place = corner[1]
        if is_place(web, place) and not order[place]:
            return place
    raise NoEnd("a corner is an end, or a place without ends")


def row_with(row, corner, end):
    """The row with the end put to the corner, which is one of the row's ends or the whole place."""
    # A place without ends has none then but the new tie's first one, behind which the second one stands.
    at = row.index(corner) + 1 if is_whole(corner) else len(row)
    return row[:at] + (end,) + row[at:]


def taken_out(web, order, tie):
    """The floor without the tie, or NoTie."""
    many, ties = web
    if not is_tie(web, tie):
        raise NoTie("there is no tie of this number")
    return ((many, ties[:tie] + ties[tie + 1:]), rows_without(order, tie))


def rows_without(rows, tie):
    """The rows as an order without the tie's ends, those of ties with greater numbers numbered anew."""
    return tuple([
        least_first([end if end < 2 * tie else end - 2 for end in row if end // 2 != tie])
        for row in rows
    ])


def drawn_in(web, order, tie):
    """The floor with the tie drawn in, so that its places become one, or NoTie."""
    many, ties = web
    if not is_tie(web, tie) or ties[tie][0] == ties[tie][1]:
        raise NoTie("there is no tie of this number between unlike places")
    low = min(ties[tie])
    high = max(ties[tie])
    end = 2 * tie if ties[tie][0] == low else 2 * tie + 1
    rows = list(order)
    rows[low] = others_behind(rows[low], end) + others_behind(rows[high], end ^ 1)
    del rows[high]
    kept = [
        (place_drawn(a, low, high), place_drawn(b, low, high))
        for a, b in ties[:tie] + ties[tie + 1:]
    ]
    return ((many - 1, tuple(kept)), rows_without(rows, tie))


def others_behind(row, end):
    """The other ends of the row, from the end's follower on round to its forerunner."""
    at = row.index(end)
    return row[at + 1:] + row[:at]


def place_drawn(place, low, high):
    """The number of the place where the place high has become one with the place low."""
    if place == high:
        return low
    return place - 1 if place > high else place
