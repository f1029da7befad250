import copy
import itertools

from holefloor.alike import alike, code, code_from, turnings
from holefloor.errors import Apart
from holefloor.holes import holes
from holefloor.orders import mirrored, order_of
from holefloor.seen import seen
from holefloor.webs import web_of
from tests.refusing import Refusing
from tests.samples import (
    CUBE, DUMBBELL, FOUR_ALL, HEAWOOD, LONG_PATH, LOOP, LOOPS_24, NO_TIES, ONE_PLACE, ONE_TIE, PATH, PETERSEN,
    RING_OF_24, SCATTERED, SEVERAL, SMALL_WEBS, STAR, THETA, THREE_BY_THREE, THREE_LOOPS, TIES_24, TRIANGLE, TWO_LOOPS,
    bags_of, floors, orders_by_hand, renamed, shuffled, varied_webs,
)

SMALL = tuple(web for web in SMALL_WEBS if len(bags_of(web)) == 1)
GREAT = (LONG_PATH, LOOPS_24, TIES_24, RING_OF_24, CUBE, PETERSEN, HEAWOOD)
APART = (SEVERAL, SCATTERED, NO_TIES, (2, ()), (3, ((0, 1),)))
LOOPED = (2, ((0, 0), (0, 0), (0, 1)))
# From place 0 paths of one, two and three ties lead away, so that its orders are not alike when mirrored.
HANDED = (7, ((0, 1), (0, 2), (2, 3), (0, 4), (4, 5), (5, 6)))


def followers(order):
    return {row[at - 1]: row[at] for row in order for at in range(len(row))}


def partner(end):
    return end + 1 if end % 2 == 0 else end - 1


def is_renaming(order, its_order, names):
    """Whether the tuple renames the ends of the one floor to those of the other one as point 30 asks."""
    behind, its_behind = followers(order), followers(its_order)
    return sorted(names) == sorted(its_behind) and len(names) == len(behind) and all(
        names[partner(end)] == partner(names[end]) and names[behind[end]] == its_behind[names[end]] for end in behind
    )


def led_from(order, its_order, first):
    """The tuple that comes of renaming end 0 so and going on to partners and followers, None where it contradicts."""
    behind, its_behind = followers(order), followers(its_order)
    names = {0: first}
    fresh = [0]
    while fresh:
        end = fresh.pop()
        for come, name in ((partner(end), partner(names[end])), (behind[end], its_behind[names[end]])):
            if come not in names:
                fresh.append(come)
            if names.setdefault(come, name) != name:
                return None
    return tuple(names[end] for end in sorted(names))


def renamings_by_hand(order, its_order):
    """All renamings, found by going through all ends of the other floor."""
    if not followers(order):
        return [] if followers(its_order) else [()]
    told = [led_from(order, its_order, first) for first in followers(its_order)]
    return sorted(names for names in told if names is not None and is_renaming(order, its_order, names))


def renamings_of_all(order, its_order):
    """All renamings, found by going through all ways to name the ends of few."""
    ends = sorted(followers(its_order))
    return [names for names in itertools.permutations(ends) if is_renaming(order, its_order, names)]


def code_by_hand(order, end):
    behind = followers(order)
    numbers = {end: 0}
    ends = [end]
    for this in ends:
        for come in (partner(this), behind[this]):
            if come not in numbers:
                numbers[come] = len(ends)
                ends.append(come)
    return tuple((numbers[partner(this)], numbers[behind[this]]) for this in ends)


def those_floors():
    yield from floors(SMALL + GREAT + tuple(varied_webs(20, 6, 8)), most=4)


class Alike(Refusing):
    def assert_told(self, one, order, other, its_order):
        told = alike(one, order, other, its_order)
        right = renamings_by_hand(order, its_order)
        self.assertEqual(told, right[0] if right else None, (one, order, other, its_order))
        if told is not None:
            self.assertEqual([type(told)] + [type(name) for name in told], [tuple] + [int] * (2 * len(one[1])))
        self.assertEqual(alike(one, order, other, its_order), told)
        return told

    def test_small_floors(self):
        self.assertEqual(alike(ONE_PLACE, ((),), ONE_PLACE, ((),)), ())
        self.assertEqual(alike(LOOP, ((0, 1),), LOOP, ((0, 1),)), (0, 1))
        self.assertEqual(alike(ONE_TIE, ((1,), (0,)), (2, ((0, 1),)), ((0,), (1,))), (0, 1))
        self.assertIsNone(alike(LOOP, ((0, 1),), ONE_TIE, ((1,), (0,))))
        self.assertIsNone(alike(TWO_LOOPS, ((0, 1, 2, 3),), TWO_LOOPS, ((0, 2, 1, 3),)))
        self.assertEqual(alike(TWO_LOOPS, ((0, 1, 2, 3),), TWO_LOOPS, ((0, 2, 3, 1),)), (1, 0, 2, 3))
        self.assertEqual(alike(TWO_LOOPS, ((0, 2, 1, 3),), TWO_LOOPS, ((0, 3, 1, 2),)), (0, 1, 3, 2))

    def test_places_without_ties(self):
        for web, order in those_floors():
            if web[1]:
                self.assertIsNone(alike(ONE_PLACE, ((),), web, order))
                self.assertIsNone(alike(web, order, ONE_PLACE, ((),)))

    def test_a_floor_is_alike_itself(self):
        for web, order in those_floors():
            self.assertEqual(alike(web, order, web, order), tuple(range(2 * len(web[1]))))

    def test_floors_named_otherwise(self):
        for web, order in those_floors():
            for seed in (1, 5, 12):
                (other, its_order), names = shuffled(web, order, seed)
                self.assertEqual(order_of(web_of(other[0], other[1]), its_order), its_order)
                self.assertTrue(is_renaming(order, its_order, names))
                self.assertLessEqual(self.assert_told(web, order, other, its_order), names)
                self.assertIsNotNone(self.assert_told(other, its_order, web, order))

    def test_every_way_to_name_a_small_floor(self):
        for web, order in floors((TWO_LOOPS, THETA, DUMBBELL, TRIANGLE, LOOPED), most=3):
            for places in itertools.permutations(range(web[0])):
                for ties in itertools.permutations(range(len(web[1]))):
                    for turned in itertools.product((0, 1), repeat=len(web[1])):
                        (other, its_order), names = renamed(web, order, places, ties, turned)
                        self.assertLessEqual(self.assert_told(web, order, other, its_order), names)

    def test_the_least_of_all_renamings(self):
        for web in (LOOP, ONE_TIE, TWO_LOOPS, THETA, DUMBBELL, TRIANGLE, LOOPED):
            for order, its_order in itertools.product(orders_by_hand(web)[:12], repeat=2):
                right = renamings_of_all(order, its_order)
                self.assertEqual(alike(web, order, web, its_order), min(right, default=None))

    def test_mirrored_floors(self):
        for web, order in floors(SMALL + (HANDED, TRIANGLE, CUBE), most=40):
            self.assert_told(web, order, web, mirrored(order))
        one, other = orders_by_hand(HANDED)
        self.assertEqual(mirrored(one), other)
        self.assertIsNone(alike(HANDED, one, HANDED, other))
        self.assertIsNone(alike(HANDED, other, HANDED, one))
        self.assertEqual(alike(THETA, ((0, 3, 4), (1, 2, 5)), THETA, ((0, 4, 3), (1, 5, 2))), (0, 1, 5, 4, 3, 2))

    def test_all_pairs_of_floors_of_a_web(self):
        for web in (TWO_LOOPS, THETA, DUMBBELL, FOUR_ALL, LOOPED, (3, ((0, 1), (1, 2), (2, 1), (2, 2)))):
            for order, its_order in itertools.product(orders_by_hand(web)[:30], repeat=2):
                told = self.assert_told(web, order, web, its_order)
                if told is not None:
                    self.assertEqual(holes(web, order), holes(web, its_order))

    def test_floors_that_go_round_one_another(self):
        rings = [(many, tuple((k, (k + 1) % many) for k in range(many))) for many in (1, 2, 3, 4, 6, 12)]
        for one, other in itertools.product(rings, repeat=2):
            order = tuple(tuple(sorted(row)) for row in orders_by_hand(one)[0])
            its_order = tuple(tuple(sorted(row)) for row in orders_by_hand(other)[0])
            self.assertEqual(self.assert_told(one, order, other, its_order) is not None, one == other)

    def test_seen_twice(self):
        for web, order in floors(SMALL + (TRIANGLE, CUBE, PETERSEN), most=6):
            once = seen(web, order)
            twice = seen(once[0], once[1])
            self.assertIsNotNone(self.assert_told(web, order, twice[0], twice[1]))
            self.assert_told(web, order, once[0], once[1])

    def test_several_parts(self):
        for web in APART:
            order = orders_by_hand(web)[0]
            for other in (ONE_PLACE, LOOP, THETA):
                its_order = orders_by_hand(other)[0]
                self.assert_refused(Apart, alike, web, order, other, its_order)
                self.assert_refused(Apart, alike, other, its_order, web, order)
            self.assert_refused(Apart, alike, web, order, web, order)

    def test_what_is_handed_in_stays_as_it_was(self):
        for web, order in those_floors():
            before = copy.deepcopy((web, order))
            alike(web, order, web, order)
            turnings(web, order)
            code(web, order)
            self.assertEqual((web, order), before)


class Turnings(Refusing):
    def test_known_turnings(self):
        self.assertEqual(turnings(ONE_PLACE, ((),)), [()])
        self.assertEqual(turnings(LOOP, ((0, 1),)), [(0, 1), (1, 0)])
        self.assertEqual(turnings(ONE_TIE, ((1,), (0,))), [(0, 1), (1, 0)])
        self.assertEqual(turnings(TWO_LOOPS, ((0, 1, 2, 3),)), [(0, 1, 2, 3), (2, 3, 0, 1)])
        self.assertEqual(
            turnings(TWO_LOOPS, ((0, 2, 1, 3),)), [(0, 1, 2, 3), (1, 0, 3, 2), (2, 3, 1, 0), (3, 2, 0, 1)]
        )
        self.assertEqual(len(turnings(RING_OF_24, orders_by_hand(RING_OF_24)[0])), 48)
        flat = next(order for order in orders_by_hand(FOUR_ALL) if holes(FOUR_ALL, order) == 0)
        self.assertEqual(len(turnings(FOUR_ALL, flat)), 12)

    def test_against_going_through_all_ends(self):
        for web, order in those_floors():
            told = turnings(web, order)
            self.assertIs(type(told), list)
            self.assertEqual(told, renamings_by_hand(order, order), (web, order))
            self.assertEqual({type(names) for names in told}, {tuple})

    def test_against_going_through_all_ways_to_name_the_ends(self):
        for web in (LOOP, ONE_TIE, TWO_LOOPS, THETA, DUMBBELL, TRIANGLE, THREE_LOOPS):
            for order in orders_by_hand(web)[:20]:
                self.assertEqual(turnings(web, order), renamings_of_all(order, order))

    def test_as_many_as_a_number_that_divides_that_of_the_ends(self):
        for web, order in those_floors():
            told = turnings(web, order)
            self.assertEqual(told, sorted(set(told)))
            self.assertEqual(told[0], tuple(range(2 * len(web[1]))))
            self.assertEqual(2 * len(web[1]) % len(told), 0)

    def test_new_at_each_asking(self):
        for web, order in ((ONE_PLACE, ((),)), (TWO_LOOPS, ((0, 2, 1, 3),))):
            told = turnings(web, order)
            right = list(told)
            told.append(None)
            again = turnings(web, order)
            self.assertEqual(again, right)
            told.clear()
            self.assertEqual(again, right)

    def test_several_parts(self):
        for web in APART:
            self.assert_refused(Apart, turnings, web, orders_by_hand(web)[0])


class Codes(Refusing):
    def test_known_codes(self):
        self.assertEqual(code(ONE_PLACE, ((),)), ())
        self.assertEqual(code_from(LOOP, ((0, 1),), 0), ((1, 1), (0, 0)))
        self.assertEqual(code_from(LOOP, ((0, 1),), 1), ((1, 1), (0, 0)))
        self.assertEqual(code_from(ONE_TIE, ((1,), (0,)), 0), ((1, 0), (0, 1)))
        # From end 0: its partner 1, its follower 2, then 1's follower 3.
        self.assertEqual(code_from(TWO_LOOPS, ((0, 2, 1, 3),), 0), ((1, 2), (0, 3), (3, 1), (2, 0)))
        # From end 1: its partner 0, its follower 2, then 2's partner 3.
        self.assertEqual(code_from(TWO_LOOPS, ((0, 1, 2, 3),), 1), ((1, 2), (0, 0), (3, 3), (2, 1)))
        self.assertEqual(code_from(TWO_LOOPS, ((0, 1, 2, 3),), 0), ((1, 1), (0, 2), (3, 3), (2, 0)))
        self.assertEqual(code(TWO_LOOPS, ((0, 1, 2, 3),)), ((1, 1), (0, 2), (3, 3), (2, 0)))

    def test_codes_from_each_end_by_other_means(self):
        for web, order in those_floors():
            codes = [code_by_hand(order, end) for end in range(2 * len(web[1]))]
            self.assertEqual([code_from(web, order, end) for end in range(2 * len(web[1]))], codes)
            told = code(web, order)
            self.assertEqual(told, min(codes, default=()))
            self.assertEqual({type(told)} | {type(pair) for pair in told}, {tuple})
            self.assertEqual(code(web, order), told)

    def test_alike_just_where_the_codes_are_the_same(self):
        webs = (ONE_PLACE, LOOP, ONE_TIE, TWO_LOOPS, THETA, DUMBBELL, TRIANGLE, THREE_LOOPS, PATH, STAR, LOOPED,
                HANDED, FOUR_ALL, THREE_BY_THREE)
        those = [(web, order) for web, order in floors(webs, most=6)]
        those += [shuffled(web, order, 9)[0] for web, order in those]
        those += [(web, mirrored(order)) for web, order in those]
        codes = [code(web, order) for web, order in those]
        for at, (one, order) in enumerate(those):
            for its_at, (other, its_order) in enumerate(those[::3]):
                same = codes[at] == codes[3 * its_at]
                self.assertEqual(same, bool(renamings_by_hand(order, its_order)))
                self.assertEqual(same, alike(one, order, other, its_order) is not None)

    def test_floors_named_otherwise_have_the_same_code(self):
        for web, order in those_floors():
            for seed in (2, 7):
                (other, its_order), names = shuffled(web, order, seed)
                self.assertEqual(code(other, its_order), code(web, order))
                for end, name in enumerate(names):
                    self.assertEqual(code_from(other, its_order, name), code_from(web, order, end))

    def test_several_parts(self):
        for web in APART:
            order = orders_by_hand(web)[0]
            self.assert_refused(Apart, code, web, order)
            if web[1]:
                self.assert_refused(Apart, code_from, web, order, 0)
                self.assert_refused(Apart, code_from, web, order, 2 * len(web[1]) - 1)
