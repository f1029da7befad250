import copy
import itertools

from holefloor.counting import counts, fewest
from holefloor.errors import NoPlace, TooGreat
from holefloor.holes import holes
from holefloor.joins import joined_at, joined_by, orders_joined
from holefloor.numbers import order_at, orders_many
from holefloor.orders import order_of
from holefloor.webs import web_of
from tests.refusing import LONG, STRANGE, Refusing
from tests.samples import (
    DUMBBELL, FOUR_ALL, LONG_PATH, LOOP, LOOPS_24, NO_TIES, ONE_PLACE, ONE_TIE, PATH, SCATTERED, SEVERAL, SMALL_WEBS,
    STAR, THETA, THREE_LOOPS, TIES_24, TWO_LOOPS, floors, holes_by_hand, multiplied, some_orders,
)

NO_PLACES = STRANGE + ([], (), [0], (0,), ("place", 0), -1, -2, 25, 26) + LONG
LITTLE = (ONE_PLACE, LOOP, TWO_LOOPS, ONE_TIE, THETA, DUMBBELL, PATH, (2, ()), SCATTERED, (3, ((2, 2), (0, 2))))


def path_of(many):
    return (many, tuple((k, k + 1) for k in range(many - 1)))


def loops_of(many):
    return (1, ((0, 0),) * many)


def lone(many):
    return (many, ())


def ways(webs):
    """Pairs of webs, each with the first, the last and a middle place."""
    for one, other in itertools.product(webs, repeat=2):
        for place in sorted({0, one[0] // 2, one[0] - 1}):
            for its in sorted({0, other[0] // 2, other[0] - 1}):
                yield one, place, other, its


def named_at(one, place, other, its):
    """The joined web, reckoned by names of places that are numbered afterwards."""
    names = [("one", k) for k in range(one[0])] + [("other", k) for k in range(other[0]) if k != its]
    numbers = {name: number for number, name in enumerate(names)}
    numbers["other", its] = place
    ties = [(numbers["one", a], numbers["one", b]) for a, b in one[1]]
    ties += [(numbers["other", a], numbers["other", b]) for a, b in other[1]]
    return len(names), tuple(ties)


class Joining(Refusing):
    def assert_web(self, told, web):
        self.assertEqual(told, web)
        self.assertEqual(repr(web_of(told[0], told[1])), repr(told))

    def assert_refuses_no_places(self, call):
        for one, other in itertools.product((ONE_PLACE, LOOP, THETA, STAR), repeat=2):
            for thing in NO_PLACES + (one[0],):
                self.assert_refused(NoPlace, call, one, thing, other, 0)
                self.assert_refused(NoPlace, call, one, thing, other, thing)
            for thing in NO_PLACES + (other[0],):
                self.assert_refused(NoPlace, call, one, 0, other, thing)

    def assert_refuses_no_places_ahead_of_what_is_too_great(self, call):
        for one, other in itertools.product((LONG_PATH, LOOPS_24, TIES_24), repeat=2):
            for thing in (-1, one[0], None, True, "0", [0], {}):
                self.assert_refused(NoPlace, call, one, thing, other, 0)
            for thing in (-1, other[0], None, True, "0", [0], {}):
                self.assert_refused(NoPlace, call, one, 0, other, thing)
            self.assert_refused(TooGreat, call, one, 0, other, 0)

    def assert_nothing_changed(self, call, things):
        before = copy.deepcopy(things)
        self.assertEqual(call(*things), call(*things))
        self.assertEqual(things, before)


class JoinedAt(Joining):
    def test_small_webs(self):
        self.assert_web(joined_at(ONE_PLACE, 0, ONE_PLACE, 0), ONE_PLACE)
        self.assert_web(joined_at(LOOP, 0, LOOP, 0), TWO_LOOPS)
        self.assert_web(joined_at(ONE_PLACE, 0, THETA, 1), (2, ((1, 0), (0, 1), (1, 0))))
        self.assert_web(joined_at(THETA, 1, ONE_PLACE, 0), THETA)
        self.assert_web(joined_at((3, ((0, 2),)), 1, (4, ((0, 1), (1, 2), (3, 1))), 1),
                        (6, ((0, 2), (3, 1), (1, 4), (5, 1))))
        self.assert_web(joined_at((3, ((0, 2),)), 0, (3, ((0, 1), (1, 2))), 0), (5, ((0, 2), (0, 3), (3, 4))))
        self.assert_web(joined_at((3, ((0, 2),)), 2, (3, ((0, 1), (1, 2))), 2), (5, ((0, 2), (3, 4), (4, 2))))
        self.assert_web(joined_at((2, ()), 1, (2, ()), 0), (3, ()))

    def test_places_and_ties_by_their_names(self):
        for one, place, other, its in ways(SMALL_WEBS):
            self.assert_web(joined_at(one, place, other, its), named_at(one, place, other, its))

    def test_every_place(self):
        for place, its in itertools.product(range(5), range(7)):
            self.assert_web(joined_at(STAR, place, SEVERAL, its), named_at(STAR, place, SEVERAL, its))

    def test_just_as_many_places_and_ties_as_there_can_be(self):
        self.assert_web(joined_at(path_of(13), 12, path_of(13), 0), LONG_PATH)
        self.assert_web(joined_at(lone(13), 4, lone(13), 5), NO_TIES)
        self.assert_web(joined_at(NO_TIES, 24, ONE_PLACE, 0), NO_TIES)
        self.assert_web(joined_at(ONE_PLACE, 0, NO_TIES, 24), NO_TIES)
        self.assert_web(joined_at(loops_of(12), 0, loops_of(12), 0), LOOPS_24)
        self.assert_web(joined_at(LOOPS_24, 0, ONE_PLACE, 0), LOOPS_24)
        self.assert_web(joined_at(LOOPS_24, 0, NO_TIES, 3), (25, ((0, 0),) * 24))

    def test_one_more_place_or_tie(self):
        for one, other in (
            (lone(13), lone(14)), (lone(14), lone(13)), (NO_TIES, (2, ())), ((2, ()), NO_TIES),
            (loops_of(12), loops_of(13)), (loops_of(13), loops_of(12)), (LOOPS_24, LOOP), (LOOP, LOOPS_24),
            (LONG_PATH, ONE_TIE), (NO_TIES, LONG_PATH),
        ):
            self.assert_refused(TooGreat, joined_at, one, 0, other, 0)
            self.assert_refused(TooGreat, joined_at, one, one[0] - 1, other, other[0] - 1)

    def test_what_is_no_place(self):
        self.assert_refuses_no_places(joined_at)
        self.assert_refuses_no_places_ahead_of_what_is_too_great(joined_at)

    def test_what_is_handed_in_stays_as_it_was(self):
        self.assert_nothing_changed(joined_at, (THETA, 1, STAR, 3))

    def test_the_fewest_holes_are_added(self):
        met = 0
        for one, place, other, its in ways(LITTLE + (THREE_LOOPS, FOUR_ALL)):
            joined = joined_at(one, place, other, its)
            if max(orders_many(web) for web in (one, other, joined)) <= 960:
                met += 1
                self.assertEqual(fewest(joined)[0], fewest(one)[0] + fewest(other)[0], joined)
        self.assertGreater(met, 300)

    def test_the_fewest_holes_of_webs_that_need_a_hole(self):
        # Three by three places, each tied to each: it needs a hole.
        needs_one = (6, tuple((a, b) for a in (0, 1, 2) for b in (3, 4, 5)))
        for other, its, many in ((ONE_TIE, 0, 1), (LOOP, 0, 1), (PATH, 3, 1), (ONE_PLACE, 0, 1)):
            joined = joined_at(needs_one, 2, other, its)
            self.assertEqual(fewest(joined)[0], many)
            self.assertEqual(fewest(joined_at(other, its, needs_one, 5))[0], many)


class OrdersJoined(Joining):
    def test_small_floors(self):
        self.assertEqual(orders_joined(ONE_PLACE, ((),), 0, ONE_PLACE, ((),), 0), ((),))
        self.assertEqual(orders_joined(LOOP, ((0, 1),), 0, LOOP, ((0, 1),), 0), ((0, 1, 2, 3),))
        self.assertEqual(
            orders_joined(TWO_LOOPS, ((0, 3, 1, 2),), 0, TWO_LOOPS, ((0, 2, 1, 3),), 0), ((0, 3, 1, 2, 4, 6, 5, 7),)
        )
        self.assertEqual(
            orders_joined(ONE_PLACE, ((),), 0, THETA, ((0, 3, 4), (1, 5, 2)), 1), ((1, 5, 2), (0, 3, 4))
        )
        self.assertEqual(
            orders_joined(THETA, ((0, 4, 3), (1, 2, 5)), 1, THETA, ((0, 3, 4), (1, 5, 2)), 0),
            ((0, 4, 3), (1, 2, 5, 6, 9, 10), (7, 11, 8)),
        )
        self.assertEqual(
            orders_joined(THETA, ((0, 4, 3), (1, 2, 5)), 0, THETA, ((0, 3, 4), (1, 5, 2)), 1),
            ((0, 4, 3, 7, 11, 8), (1, 2, 5), (6, 9, 10)),
        )

    def test_an_order_of_the_joined_web_with_the_holes_of_both(self):
        those = [(web, order) for web, order in floors(SMALL_WEBS, most=3)]
        for (one, order), (other, its_order) in itertools.product(those, repeat=2):
            for place in sorted({0, one[0] - 1}):
                for its in sorted({0, other[0] - 1, other[0] // 2}):
                    self.assert_joined(one, order, place, other, its_order, its)

    def assert_joined(self, one, order, place, other, its_order, its):
        web = joined_at(one, place, other, its)
        told = orders_joined(one, order, place, other, its_order, its)
        self.assertEqual([type(told)] + [type(row) for row in told], [tuple] * (1 + web[0]))
        self.assertEqual(order_of(web, told), told)
        self.assertEqual(holes_by_hand(web, told), holes_by_hand(one, order) + holes_by_hand(other, its_order))
        self.assertEqual(holes(web, told), holes(one, order) + holes(other, its_order))
        moved = [tuple(end + 2 * len(one[1]) for end in row) for row in its_order]
        self.assertEqual(told[place], order[place] + moved[its])
        self.assertEqual(told[:one[0]], order[:place] + (told[place],) + order[place + 1:])
        self.assertEqual(list(told[one[0]:]), moved[:its] + moved[its + 1:])

    def test_a_floor_joined_to_itself(self):
        for web, order in floors((TWO_LOOPS, THETA, FOUR_ALL, STAR), most=6):
            for place in range(web[0]):
                self.assert_joined(web, order, place, web, order, place)

    def test_just_as_many_places_and_ties_as_there_can_be(self):
        for one, other in ((path_of(13), path_of(13)), (loops_of(12), loops_of(12)), (NO_TIES, ONE_PLACE),
                           (ONE_PLACE, LONG_PATH), (LOOPS_24, NO_TIES)):
            for order, its_order in itertools.product(some_orders(one)[:2], some_orders(other)[-2:]):
                self.assert_joined(one, order, one[0] - 1, other, its_order, 0)

    def test_one_more_place_or_tie(self):
        for one, other in ((lone(13), lone(14)), (NO_TIES, (2, ())), (loops_of(12), loops_of(13)), (LOOPS_24, LOOP)):
            order, its_order = order_at(one, 0), order_at(other, 0)
            self.assert_refused(TooGreat, orders_joined, one, order, 0, other, its_order, 0)

    def test_what_is_no_place(self):
        def call(one, place, other, its):
            return orders_joined(one, order_at(one, 0), place, other, order_at(other, 0), its)

        self.assert_refuses_no_places(call)
        self.assert_refuses_no_places_ahead_of_what_is_too_great(call)

    def test_what_is_handed_in_stays_as_it_was(self):
        self.assert_nothing_changed(orders_joined, (THETA, order_at(THETA, 1), 1, STAR, order_at(STAR, 2), 3))


class JoinedBy(Joining):
    def test_small_webs(self):
        self.assert_web(joined_by(ONE_PLACE, 0, ONE_PLACE, 0), (2, ((0, 1),)))
        self.assert_web(joined_by(LOOP, 0, LOOP, 0), (2, ((0, 0), (1, 1), (0, 1))))
        self.assert_web(joined_by((3, ((0, 2),)), 1, (4, ((0, 1), (3, 1))), 2), (7, ((0, 2), (3, 4), (6, 4), (1, 5))))
        self.assert_web(joined_by((2, ()), 1, (3, ()), 2), (5, ((1, 4),)))
        self.assert_web(joined_by(THETA, 1, THETA, 0), (4, THETA[1] + ((2, 3), (3, 2), (2, 3), (1, 2))))

    def test_places_and_ties(self):
        for one, place, other, its in ways(SMALL_WEBS):
            ties = one[1] + tuple((one[0] + a, one[0] + b) for a, b in other[1]) + ((place, one[0] + its),)
            self.assert_web(joined_by(one, place, other, its), (one[0] + other[0], ties))

    def test_just_as_many_places_and_ties_as_there_can_be(self):
        steps = LONG_PATH[1]
        self.assert_web(joined_by(path_of(12), 11, path_of(13), 0), (25, steps[:11] + steps[12:] + ((11, 12),)))
        self.assert_web(joined_by(lone(24), 23, ONE_PLACE, 0), (25, ((23, 24),)))
        self.assert_web(joined_by(ONE_PLACE, 0, lone(24), 23), (25, ((0, 24),)))
        self.assert_web(joined_by(loops_of(12), 0, loops_of(11), 0), (2, ((0, 0),) * 12 + ((1, 1),) * 11 + ((0, 1),)))
        self.assert_web(joined_by(loops_of(23), 0, ONE_PLACE, 0), (2, ((0, 0),) * 23 + ((0, 1),)))
        self.assert_web(joined_by(ONE_PLACE, 0, loops_of(23), 0), (2, ((1, 1),) * 23 + ((0, 1),)))

    def test_one_more_place_or_tie(self):
        for one, other in (
            (lone(13), lone(13)), (NO_TIES, ONE_PLACE), (ONE_PLACE, NO_TIES), (LOOPS_24, ONE_PLACE),
            (ONE_PLACE, LOOPS_24), (loops_of(12), loops_of(12)), (loops_of(23), LOOP), (path_of(13), path_of(13)),
        ):
            self.assert_refused(TooGreat, joined_by, one, 0, other, 0)
            self.assert_refused(TooGreat, joined_by, one, one[0] - 1, other, other[0] - 1)

    def test_what_is_no_place(self):
        self.assert_refuses_no_places(joined_by)
        self.assert_refuses_no_places_ahead_of_what_is_too_great(joined_by)

    def test_what_is_handed_in_stays_as_it_was(self):
        self.assert_nothing_changed(joined_by, (THETA, 1, STAR, 3))

    def test_the_counts_are_multiplied(self):
        met = 0
        for one, place, other, its in ways(LITTLE + (THREE_LOOPS, FOUR_ALL)):
            joined = joined_by(one, place, other, its)
            if max(orders_many(web) for web in (one, other, joined)) <= 960:
                met += 1
                self.assertEqual(counts(joined), multiplied(one, place, other, its), joined)
                self.assertEqual(fewest(joined)[0], fewest(one)[0] + fewest(other)[0], joined)
        self.assertGreater(met, 300)

    def test_the_counts_at_places_without_ends(self):
        self.assertEqual(counts(joined_by(ONE_PLACE, 0, ONE_PLACE, 0)), [1])
        self.assertEqual(counts(joined_by(TWO_LOOPS, 0, ONE_PLACE, 0)), [16, 8])
        self.assertEqual(counts(joined_by(ONE_PLACE, 0, TWO_LOOPS, 0)), [16, 8])
        self.assertEqual(counts(joined_by(SCATTERED, 0, THETA, 1)), [6, 6])
        self.assertEqual(counts(joined_by(THETA, 0, THETA, 1)), [36, 72, 36])
