"""Webs and orders that several tests go through."""

import itertools

from holefloor.counting import counts
from holefloor.numbers import order_at, orders_many
from holefloor.webs import ends_at

ONE_PLACE = (1, ())
LOOP = (1, ((0, 0),))
TWO_LOOPS = (1, ((0, 0), (0, 0)))
THREE_LOOPS = (1, ((0, 0),) * 3)
ONE_TIE = (2, ((1, 0),))
THETA = (2, ((0, 1), (1, 0), (0, 1)))
PATH = (4, ((2, 1), (0, 1), (3, 2)))
STAR = (5, ((0, 3), (3, 1), (2, 3), (3, 4)))
DUMBBELL = (2, ((0, 0), (0, 1), (1, 1)))
FOUR_ALL = (4, ((0, 1), (0, 2), (0, 3), (1, 2), (1, 3), (2, 3)))
THREE_BY_THREE = (6, tuple((a, b) for a in (0, 1, 2) for b in (3, 4, 5)))
SEVERAL = (7, ((1, 4), (6, 2), (4, 1), (2, 2), (1, 4), (6, 6)))
SCATTERED = (4, ((3, 3), (1, 1)))
NO_TIES = (25, ())
LONG_PATH = (25, tuple((k, k + 1) for k in range(24)))
LOOPS_24 = (1, ((0, 0),) * 24)
TIES_24 = (2, ((0, 1),) * 24)
RING_OF_24 = (24, tuple((k, (k + 1) % 24) for k in range(24)))
TRIANGLE = (3, ((0, 1), (1, 2), (2, 0)))
CUBE = (8, tuple((k, k ^ bit) for k in range(8) for bit in (1, 2, 4) if k < k ^ bit))
# Webs of three ends at each place whose shortest rings have five, six and six ties.
PETERSEN = (10, tuple((k, (k + 1) % 5) for k in range(5)) + tuple((k, k + 5) for k in range(5))
            + tuple((5 + k, 5 + (k + 2) % 5) for k in range(5)))
HEAWOOD = (14, tuple((k, (k + 1) % 14) for k in range(14)) + tuple((k, (k + 5) % 14) for k in range(0, 14, 2)))
SIXTEEN = (16, tuple((k, (k + 1) % 8) for k in range(8)) + tuple((k, k + 8) for k in range(8))
           + tuple((8 + k, 8 + (k + 3) % 8) for k in range(8)))
# A place of six ends, three of three ends and three of one: 120 times 8 orders.
ORDERS_960 = (7, ((0, 1), (0, 1), (0, 2), (0, 2), (0, 3), (0, 3), (1, 4), (2, 5), (3, 6)))
# Ten places of three ends each.
ORDERS_1024 = (10, tuple((k, (k + 1) % 10) for k in range(10)) + tuple((k, k + 5) for k in range(5)))

SMALL_WEBS = (
    ONE_PLACE, LOOP, TWO_LOOPS, THREE_LOOPS, ONE_TIE, THETA, PATH, STAR, DUMBBELL, FOUR_ALL,
    THREE_BY_THREE, SEVERAL, SCATTERED,
)
WEBS = SMALL_WEBS + (NO_TIES, LONG_PATH, LOOPS_24, TIES_24)


def rows_by_hand(ends):
    """All rows of the rising ends, begun with the least one, sorted."""
    return [tuple(ends[:1]) + rest for rest in itertools.permutations(ends[1:])]


def orders_by_hand(web):
    """All orders of the web, sorted, found by going through them."""
    many, ties = web
    rounds = [[] for place in range(many)]
    for k, (a, b) in enumerate(ties):
        rounds[a].append(2 * k)
        rounds[b].append(2 * k + 1)
    return sorted(itertools.product(*[rows_by_hand(ends) for ends in rounds]))


def some_orders(web):
    """All orders of a small web, some of a greater one."""
    if web in SMALL_WEBS:
        return orders_by_hand(web)
    many = orders_many(web)
    return [order_at(web, number) for number in sorted({0, many // 3, many // 2, many * 5 // 7, many - 1})]


def some_crossings(web):
    """All crossings of a web with few ties, some of another one: none, all and some ties crossed."""
    many = len(web[1])
    if many <= 3:
        return list(itertools.product((0, 1), repeat=many))
    none, every = (0,) * many, (1,) * many
    some = [tuple(int(k % step == at) for k in range(many)) for step, at in ((2, 0), (2, 1), (3, 1), (4, 2))]
    return [none, every] + some + [none[:-1] + (1,), (1,) + none[:-1]]


def floors(webs=WEBS, most=12):
    """Webs with orders of them, at most so many of each, taken from all over."""
    for web in webs:
        orders = some_orders(web)
        for order in orders[::max(1, len(orders) // most)][:most]:
            yield web, order


def crossed_floors(webs=WEBS, most=6):
    """Webs with orders and crossings of them."""
    for web, order in floors(webs, most):
        for crossings in some_crossings(web):
            yield web, order, crossings


def holes_by_hand(web, order):
    """The holes, reckoned from how many rounds the ends go in."""
    follower = {row[at - 1]: row[at] for row in order for at in range(len(row))}
    partners = {end: end + 1 - 2 * (end % 2) for end in follower}
    left, rounds = set(follower), order.count(())
    while left:
        rounds += 1
        end = min(left)
        while end in left:
            left.remove(end)
            end = follower[partners[end]]
    return (2 * len(bags_of(web)) - web[0] + len(web[1]) - rounds) // 2


def bags_of(web):
    """The parts as sets of places, found by bringing bags of places together."""
    bags = [{place} for place in range(web[0])]
    for a, b in web[1]:
        joined = [bag for bag in bags if a in bag or b in bag]
        bags = [bag for bag in bags if bag not in joined] + [set().union(*joined)]
    return bags


def varied_webs(many, places, ties, seed=1):
    """So many webs of one part, of all sorts, of at most so many places and ties; the same ones each time."""
    told = 0
    while told < many:
        web_places = 1 + seed // 7 % places
        web_ties = []
        for k in range(seed // 11 % (ties + 1)):
            seed = (seed * 6364136223846793005 + 1442695040888963407) % 2 ** 64
            web_ties.append((seed // 2 ** 33 % web_places, seed // 2 ** 45 % web_places))
        seed = (seed * 6364136223846793005 + 1442695040888963407) % 2 ** 64
        web = (web_places, tuple(web_ties))
        if len(bags_of(web)) == 1:
            told += 1
            yield web


def renamed(web, order, places, ties, turned):
    """The floor with its places and ties numbered so and some ties turned about, and a tuple of the ends' new names."""
    ends = tuple(2 * ties[end // 2] + (end % 2 ^ turned[end // 2]) for end in range(2 * len(web[1])))
    at = {ends[2 * tie + k]: places[place] for tie, pair in enumerate(web[1]) for k, place in enumerate(pair)}
    rows = [None] * web[0]
    for place, row in enumerate(order):
        moved = [ends[end] for end in row]
        first = moved.index(min(moved)) if moved else 0
        rows[places[place]] = tuple(moved[first:] + moved[:first])
    return ((web[0], tuple((at[end], at[end + 1]) for end in range(0, len(ends), 2))), tuple(rows)), ends


def mixed(many, seed):
    """The numbers below many in some order, which the seed chooses."""
    return sorted(range(many), key=lambda k: ((k + 1) * (2 * seed + 1) * 7919 % 101, k))


def shuffled(web, order, seed):
    """The floor renamed in some way, which the seed chooses, and a tuple of the ends' new names."""
    turned = [(seed * (k + 3) // 2) % 2 for k in range(len(web[1]))]
    return renamed(web, order, mixed(web[0], seed), mixed(len(web[1]), seed), turned)


def by_least_ends(web, order):
    """The floor itself with its places numbered anew: those without ends first, the others by their least ends."""
    places = sorted(range(web[0]), key=lambda place: order[place][:1])
    numbers = {place: number for number, place in enumerate(places)}
    ties = tuple((numbers[a], numbers[b]) for a, b in web[1])
    return (web[0], ties), tuple(order[place] for place in places)


def multiplied(one, place, other, its):
    """The counts of the web joined by a tie, as point 29 tells."""
    factor = max(1, len(ends_at(one, place))) * max(1, len(ends_at(other, its)))
    own, others = counts(one), counts(other)
    told = [0] * (len(own) + len(others) - 1)
    for (a, many), (b, more) in itertools.product(enumerate(own), enumerate(others)):
        told[a + b] += factor * many * more
    return told
