"""Tables of faces, and the floors whose faces they tell."""

from holefloor.errors import NoTable
from holefloor.faces import faces
from holefloor.orders import least_first, order_of
from holefloor.plain import is_row, is_whole
from holefloor.seen import floor_by
from holefloor.webs import MOST_PLACES, MOST_TIES, ends_at


def read_table(table):
    """The floor whose faces the table tells, or NoTable."""
    rows = rows_told_by(faces_of_table(table))
    if not 1 <= len(rows) <= MOST_PLACES:
        raise NoTable(f"the floor of a table has from 1 to {MOST_PLACES} places")
    return floor_by(rows)


def faces_of_table(table):
    """The table's faces as tuples, each begun with its least end, or NoTable."""
    if not is_row(table) or not all([is_row(face) for face in table]):
        raise NoTable("a table is a list or tuple of lists or tuples")
    ends = [end for face in table for end in face]
    if not all([is_whole(end) for end in ends]) or sorted(ends) != list(range(len(ends))):
        raise NoTable("a table has all ends from 0 on, each once, and nothing else")
    if len(ends) % 2 == 1 or len(ends) > 2 * MOST_TIES:
        raise NoTable(f"a table has both ends of each tie, and at most {MOST_TIES} ties")
    return [least_first(face) for face in table]


def rows_told_by(told):
    """The tuples of ends at the places of the floor that has these faces, sorted."""
    # A floor seen from its faces has as its own faces what stands round the places (seen.py).
    web, order = floor_by(told)
    return faces(web, order)


def order_by(web, table):
    """The order of the web whose faces the table tells; NoTable, then NoOrder."""
    told = faces_of_table(table)
    ends = [ends_at(web, place) for place in range(web[0])]
    if sum([len(face) for face in told]) != 2 * len(web[1]):
        raise NoTable("the table has not as many ends as the web")
    if told.count(()) != ends.count([]):
        raise NoTable("the table has not as many faces without ends as the web has places without")
    firsts = {row[:1]: row for row in rows_told_by(told)}
    return order_of(web, [firsts.get(tuple(own[:1]), ()) for own in ends])
