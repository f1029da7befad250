"""The numbers of a web's orders, which are sorted as Python compares tuples."""

from holefloor.errors import NoNumber
from holefloor.plain import is_whole
from holefloor.webs import ends_at


def orders_many(web):
    """How many orders the web has."""
    product = 1
    for place in range(web[0]):
        product *= rows_many(len(ends_at(web, place)))
    return product


def rows_many(many):
    """In how many rows so many ends can stand, begun with the least one."""
    product = 1
    for factor in range(2, many):
        product *= factor
    return product


def order_at(web, number):
    """The order of this number, or NoNumber."""
    if not is_whole(number) or not 0 <= number < orders_many(web):
        raise NoNumber("there is no order of this number")
    rows = []
    # The last place's row changes first from one order to the next, so it is told apart first.
    for place in reversed(range(web[0])):
        ends = ends_at(web, place)
        number, own = divmod(number, rows_many(len(ends)))
        rows.append(row_at(ends, own))
    return tuple(rows[::-1])


def row_at(ends, number):
    """The row of this number among the rows of these rising ends."""
    row = ends[:1]
    rest = ends[1:]
    while rest:
        # Behind each choice of the next end as many rows begin alike as the others can be put in order.
        at, number = divmod(number, rows_many(len(rest)))
        row.append(rest.pop(at))
    return tuple(row)


def all_orders(web):
    """All orders of the web by their numbers; for webs that don't have too many to keep."""
    told = [()]
    for place in range(web[0]):
        ends = ends_at(web, place)
        rows = [row_at(ends, number) for number in range(rows_many(len(ends)))]
        told = [ahead + (row,) for ahead in told for row in rows]
    return told


def number_of(web, order):
    """The number of the order."""
    number = 0
    for place, row in enumerate(order):
        number = number * rows_many(len(row)) + row_number(ends_at(web, place), row)
    return number


def row_number(ends, row):
    """The number of the row among the rows of these rising ends."""
    number = 0
    rest = ends[1:]
    for end in row[1:]:
        at = rest.index(end)
        number += at * rows_many(len(rest))
        rest.pop(at)
    return number
