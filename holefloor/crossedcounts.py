"""All orders of a small web, counted with all crossings but of the first tree's ties."""

from holefloor.counting import MOST_FLOORS, count_one
from holefloor.crossed import lack
from holefloor.errors import TooMany
from holefloor.numbers import all_orders, orders_many
from holefloor.sides import sides
from holefloor.webs import rank_of


def first_tree(web):
    """The numbers of the ties that, by their numbers, lead between places not yet hung together by such ties."""
    many, ties = web
    tree = []
    kept = ()
    for tie, pair in enumerate(ties):
        # Ties have the rank 0 just as long as none of them leads between places hung together already.
        if rank_of((many, kept + (pair,))) == 0:
            tree.append(tie)
            kept += (pair,)
    return tuple(tree)


def crossed_counts(web):
    """How many floors have two sides, by holes, and how many have one, by lack; or TooMany."""
    if crossed_many(web) > MOST_FLOORS:
        raise TooMany(f"the web has more than {MOST_FLOORS} orders with crossings")
    orders = all_orders(web)
    two = []
    one = []
    for crossings in all_crossings(web):
        word = sides(web, crossings)[0]
        for order in orders:
            lacks = lack(web, order, crossings)
            if word == "two":
                count_one(two, lacks // 2)
            else:
                count_one(one, lacks)
    return (two, one)


def crossed_many(web):
    """How many orders with crossings there are in which no tie of the first tree is crossed."""
    many = orders_many(web)
    for free in range(rank_of(web)):
        many *= 2
    return many


def all_crossings(web):
    """All crossings in which no tie of the first tree is crossed."""
    tree = first_tree(web)
    told = [()]
    for tie in range(len(web[1])):
        choices = (0,) if tie in tree else (0, 1)
        told = [crossings + (choice,) for crossings in told for choice in choices]
    return told
