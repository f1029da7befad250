"""Papers from both sides that meet at the most holes."""

from holefloor.errors import TooGreat
from holefloor.sets import set_bars
from holefloor.trees import is_tree, meet
from holefloor.webs import rank_of, refuse_parts

MOST_TIES_SEARCHED = 10


def most_papers(web):
    """The most holes, a tree paper that shows them and a set paper that bars more; Apart, then TooGreat."""
    refuse_parts(web)
    if len(web[1]) > MOST_TIES_SEARCHED:
        raise TooGreat(f"papers are told of at most {MOST_TIES_SEARCHED} ties")
    sets = sets_of_ties(web)
    tree_paper = best_tree_paper(web, [ties for ties in sets if is_tree(web, ties)])
    most = len(tree_paper[1])
    at = 0
    # Some set paper tells just as many as the best tree paper shows, so this comes to an end.
    while set_bars(web, sets[at]) != most:
        at += 1
    return (most, tree_paper, sets[at])


def sets_of_ties(web):
    """All rising tuples of numbers of ties."""
    told = [()]
    for tie in range(len(web[1])):
        told = told + [ties + (tie,) for ties in told]
    return told


def best_tree_paper(web, trees):
    """A tree paper, of one of these trees, of as many pairs as there can be."""
    best = None
    for tree in trees:
        pairs = most_pairs(web, [tie for tie in range(len(web[1])) if tie not in tree])
        if best is None or len(pairs) > len(best[1]):
            best = (tree, pairs)
        if len(pairs) == rank_of(web) // 2:
            return best
    return best


def most_pairs(web, ties):
    """As many pairs as there can be of those of the ties that meet, none twice."""
    if len(ties) < 2:
        return ()
    first = ties[0]
    rest = ties[1:]
    best = ()
    for other in rest:
        if meet(web, first, other):
            left = [tie for tie in rest if tie != other]
            best = longer(best, ((first, other),) + most_pairs(web, left))
        if len(best) == len(ties) // 2:
            return best
    return longer(best, most_pairs(web, rest))


def longer(one, other):
    """The longer one of two tuples, the first one where they are alike."""
    return other if len(other) > len(one) else one
