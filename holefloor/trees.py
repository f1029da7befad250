"""Tree papers, which show that there is an order with so many holes, and the order laid by one."""

from holefloor.changes import put_in
from holefloor.errors import NoPaper
from holefloor.faces import faces
from holefloor.orders import forerunner, order_of
from holefloor.sets import are_ties
from holefloor.webs import parts_of


def tree_shows(web, paper):
    """How many holes the paper, whatever it is, shows; None where it is no right tree paper."""
    if not isinstance(paper, tuple) or len(paper) != 2:
        return None
    tree, pairs = paper
    if not is_tree(web, tree) or not are_pairs(web, tree, pairs):
        return None
    return len(pairs)


def is_tree(web, tree):
    """Whether the thing is a rising tuple of numbers of ties, as few as can be, that hang all places together."""
    many, ties = web
    if not are_ties(web, tree) or len(tree) != many - 1:
        return False
    return len(parts_of((many, tuple([ties[tie] for tie in tree])))) == 1


def are_pairs(web, tree, pairs):
    """Whether the thing is a tuple of pairs of ties that meet, none of them in the tree or twice."""
    if not isinstance(pairs, tuple) or not all([is_pair(web, pair) for pair in pairs]):
        return False
    numbers = list(tree) + [tie for pair in pairs for tie in pair]
    return len(set(numbers)) == len(numbers)


def is_pair(web, pair):
    """Whether the thing is a rising tuple of the numbers of two ties that meet."""
    return are_ties(web, pair) and len(pair) == 2 and meet(web, pair[0], pair[1])


def meet(web, one, other):
    """Whether both ties have an end at one place."""
    return any([place in web[1][other] for place in web[1][one]])


def laid(web, paper):
    """An order that has at least as many holes as the tree paper shows, or NoPaper."""
    if tree_shows(web, paper) is None:
        raise NoPaper("this is no right tree paper of the web")
    ties = ties_in_turn(web, paper)
    floor = ((web[0], ()), ((),) * web[0])
    for tie in ties:
        floor = with_tie(floor, web[1][tie])
    # The ties were numbered as they came, not as the web numbers them.
    return order_of(web, [[2 * ties[end // 2] + end % 2 for end in row] for row in floor[1]])


def ties_in_turn(web, paper):
    """All ties: those of the tree, then those of the pairs, then the others."""
    tree, pairs = paper
    turn = list(tree) + [tie for pair in pairs for tie in pair]
    return turn + [tie for tie in range(len(web[1])) if tie not in turn]


def with_tie(floor, tie):
    """The floor with a tie put in between these places, at corners of unlike faces where there are such."""
    # Behind the tree there is one face, which a pair's first tie parts in two. These lie on both sides of it, so at
    # the common place the second tie has corners of both to choose from, and makes them one again: one hole more.
    web, order = floor
    bounds = {forerunner(web, order, end): face for face in faces(web, order) for end in face}
    ways = [(one, other) for one in corners_at(order, tie[0]) for other in corners_at(order, tie[1])]
    # A corner at a place without ends has a face of its own.
    unlike = [way for way in ways if bounds.get(way[0], way[0]) != bounds.get(way[1], way[1])]
    one, other = (unlike + ways)[0]
    return put_in(web, order, one, other)


def corners_at(order, place):
    """All corners at the place."""
    return list(order[place]) if order[place] else [("place", place)]
