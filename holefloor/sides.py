"""Two sides or one: what shows it, and places turned over."""

from holefloor.orders import turned_about
from holefloor.plain import are_wholes
from holefloor.webs import parts_of, place_of


def sides(web, crossings):
    """("two", a side for each place) or ("one", a ring in which ties are crossed an odd number of times)."""
    paths = paths_of(web)
    given = [crossed_times(crossings, paths[place]) % 2 for place in range(web[0])]
    for tie, (a, b) in enumerate(web[1]):
        if not fits(given, a, b, crossings[tie]):
            return ("one", ring_by(paths[a], 2 * tie, paths[b]))
    return ("two", tuple(given))


def paths_of(web):
    """By places, the ends through which one comes to each from the first place of its part."""
    paths = {part[0]: () for part in parts_of(web)}
    while len(paths) < web[0]:
        for end in range(2 * len(web[1])):
            here = place_of(web, end)
            there = place_of(web, end ^ 1)
            if here in paths and there not in paths:
                paths[there] = paths[here] + (end,)
    return paths


def ring_by(path, end, other):
    """The ring along the path, over the end's tie and back along the other path."""
    # What both paths begin with would be gone there and back.
    while path and other and path[0] == other[0]:
        path = path[1:]
        other = other[1:]
    return path + (end,) + tuple([step ^ 1 for step in other[::-1]])


def crossed_times(crossings, ends):
    """How many times ties are crossed, gone through by these ends."""
    return sum([crossings[end // 2] for end in ends])


def fits(given, a, b, crossing):
    """Whether the tie between the two places is crossed just where these have unlike sides."""
    return (given[a] != given[b]) == (crossing == 1)


def shows_sides(web, crossings, thing):
    """Whether the thing, whatever it is, is such a tuple as sides tells."""
    if not isinstance(thing, tuple) or len(thing) != 2:
        return False
    word, shown = thing
    if not are_wholes(shown):
        return False
    if word == "two":
        return are_sides(web, crossings, shown)
    return word == "one" and is_round(web, shown) and crossed_times(crossings, shown) % 2 == 1


def are_sides(web, crossings, shown):
    """Whether these whole numbers are sides of the places, 0 for the first one of each part."""
    if len(shown) != web[0] or not all([side in (0, 1) for side in shown]):
        return False
    if any([shown[part[0]] == 1 for part in parts_of(web)]):
        return False
    return all([fits(shown, a, b, crossings[tie]) for tie, (a, b) in enumerate(web[1])])


def is_round(web, shown):
    """Whether these whole numbers are ends, one or more, that lead from each to the next one and round."""
    if not shown or not all([0 <= end < 2 * len(web[1]) for end in shown]):
        return False
    nexts = shown[1:] + shown[:1]
    return all([place_of(web, end ^ 1) == place_of(web, come) for end, come in zip(shown, nexts)])


def turned_over(web, order, crossings, place):
    """The order and the crossings with the place turned over."""
    rows = list(order)
    rows[place] = turned_about(rows[place])
    changed = [
        1 - crossing if (a == place) != (b == place) else crossing
        for (a, b), crossing in zip(web[1], crossings)
    ]
    return (tuple(rows), tuple(changed))
