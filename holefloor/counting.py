"""All orders of a small web, counted by holes."""

from holefloor.errors import TooMany
from holefloor.holes import holes
from holefloor.numbers import all_orders, orders_many

MOST_FLOORS = 960


def counts(web):
    """A list that tells by holes how many orders have them, or TooMany."""
    told = []
    for many in holes_of_all(web, small_orders(web)):
        count_one(told, many)
    return told


def small_orders(web):
    """All orders of a small web by their numbers, or TooMany."""
    if orders_many(web) > MOST_FLOORS:
        raise TooMany(f"the web has more than {MOST_FLOORS} orders")
    return all_orders(web)


def holes_of_all(web, orders):
    """The holes of each of the orders."""
    return [holes(web, order) for order in orders]


def count_one(told, number):
    """Counts one more of this number in the list, which grows as far as it has to."""
    while len(told) <= number:
        told.append(0)
    told[number] += 1


def fewest(web):
    """The fewest holes and the first order that has them, or TooMany."""
    orders = small_orders(web)
    many = holes_of_all(web, orders)
    return (min(many), orders[many.index(min(many))])


def most(web):
    """The most holes and the first order that has them, or TooMany."""
    orders = small_orders(web)
    many = holes_of_all(web, orders)
    return (max(many), orders[many.index(max(many))])
