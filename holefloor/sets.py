"""Set papers, which show that there can't be more holes."""

from holefloor.webs import is_tie, parts_of, rank_of


def set_bars(web, paper):
    """The holes that no order passes by the paper, whatever it is; None where it is no set paper."""
    if len(parts_of(web)) > 1 or not are_ties(web, paper):
        return None
    many, ties = web
    rest = tuple([pair for tie, pair in enumerate(ties) if tie not in paper])
    parts = parts_of((many, rest))
    odd = [part for part in parts if rank_of_part(rest, part) % 2 == 1]
    return (rank_of(web) - len(parts) - len(odd) + len(paper) + 1) // 2


def are_ties(web, thing):
    """Whether the thing is a rising tuple of numbers of ties."""
    if not isinstance(thing, tuple) or not all([is_tie(web, tie) for tie in thing]):
        return False
    return list(thing) == sorted(set(thing))


def rank_of_part(ties, part):
    """The rank that the part of a web of these ties has by itself."""
    return len([a for a, b in ties if a in part]) - len(part) + 1
