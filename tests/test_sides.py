import copy
import itertools
import unittest

from holefloor.crossed import lack
from holefloor.orders import order_of
from holefloor.sides import shows_sides, sides, turned_over
from holefloor.webs import parts_of, place_of
from tests.refusing import LONG, STRANGE
from tests.samples import (
    DUMBBELL, LONG_PATH, LOOP, LOOPS_24, NO_TIES, ONE_PLACE, ONE_TIE, SCATTERED, SEVERAL, SMALL_WEBS, THETA, TIES_24,
    WEBS, crossed_floors, some_crossings,
)

TRIANGLE = (3, ((0, 1), (1, 2), (2, 0)))
RING_OF_24 = (25, tuple((k, (k + 1) % 24) for k in range(24)))


def can_have_two(web, crossings):
    """Whether the places can be given sides, found by going through all ways."""
    return any(
        all((given[a] != given[b]) == bool(crossing) for (a, b), crossing in zip(web[1], crossings))
        for given in itertools.product((0, 1), repeat=web[0])
    )


def every_crossing(webs):
    for web in webs:
        for crossings in some_crossings(web):
            yield web, crossings


class Sides(unittest.TestCase):
    def assert_two(self, web, crossings, told):
        self.assertEqual((type(told), len(told), told[0], type(told[1])), (tuple, 2, "two", tuple))
        self.assertEqual(len(told[1]), web[0])
        self.assertTrue(all(type(side) is int and side in (0, 1) for side in told[1]))
        for part in parts_of(web):
            self.assertEqual(told[1][part[0]], 0)
        for (a, b), crossing in zip(web[1], crossings):
            self.assertEqual(told[1][a] != told[1][b], crossing == 1)

    def assert_one(self, web, crossings, told):
        self.assertEqual((type(told), len(told), told[0], type(told[1])), (tuple, 2, "one", tuple))
        ring = told[1]
        self.assertGreaterEqual(len(ring), 1)
        self.assertTrue(all(type(end) is int and 0 <= end < 2 * len(web[1]) for end in ring))
        for end, come in zip(ring, ring[1:] + ring[:1]):
            partner = end + 1 if end % 2 == 0 else end - 1
            self.assertEqual(place_of(web, partner), place_of(web, come))
        self.assertEqual(sum(crossings[end // 2] for end in ring) % 2, 1)

    def assert_told(self, web, crossings):
        told = sides(web, crossings)
        if told[0] == "two":
            self.assert_two(web, crossings, told)
        else:
            self.assert_one(web, crossings, told)
        self.assertIs(shows_sides(web, crossings, told), True)
        self.assertEqual(sides(web, crossings), told)
        return told[0]

    def test_two_or_one_as_all_ways_to_give_sides_tell(self):
        for web, crossings in every_crossing(SMALL_WEBS):
            word = "two" if can_have_two(web, crossings) else "one"
            self.assertEqual(self.assert_told(web, crossings), word)

    def test_great_webs(self):
        for web, crossings in every_crossing((LONG_PATH, LOOPS_24, TIES_24, RING_OF_24)):
            self.assert_told(web, crossings)
        self.assertEqual(sides(NO_TIES, ()), ("two", (0,) * 25))
        self.assertEqual(sides(LONG_PATH, (1,) * 24), ("two", (0, 1) * 12 + (0,)))
        self.assertEqual(sides(TIES_24, (1,) * 24), ("two", (0, 1)))
        self.assertEqual(self.assert_told(TIES_24, (1,) * 23 + (0,)), "one")
        self.assertEqual(self.assert_told(RING_OF_24, (1,) * 24), "two")
        self.assertEqual(self.assert_told(RING_OF_24, (1,) * 23 + (0,)), "one")

    def test_sides_of_small_floors(self):
        self.assertEqual(sides(ONE_PLACE, ()), ("two", (0,)))
        self.assertEqual(sides(LOOP, (0,)), ("two", (0,)))
        self.assertEqual(sides(ONE_TIE, (0,)), ("two", (0, 0)))
        self.assertEqual(sides(ONE_TIE, (1,)), ("two", (0, 1)))
        self.assertEqual(sides(TRIANGLE, (1, 1, 0)), ("two", (0, 1, 0)))
        self.assertEqual(sides(TRIANGLE, (0, 1, 1)), ("two", (0, 0, 1)))

    def test_a_crossed_tie_from_a_place_to_itself(self):
        self.assertEqual(self.assert_told(LOOP, (1,)), "one")
        self.assertEqual(self.assert_told(DUMBBELL, (0, 1, 0)), "two")
        for crossings in ((1, 0, 0), (0, 0, 1), (1, 1, 1)):
            self.assertEqual(self.assert_told(DUMBBELL, crossings), "one")
        self.assertEqual(self.assert_told((4, ((0, 1), (1, 2), (2, 3), (3, 3))), (1, 0, 1, 1)), "one")

    def test_several_parts(self):
        self.assertEqual(sides((6, ((5, 1), (4, 2), (2, 0))), (1, 1, 0)), ("two", (0, 0, 0, 0, 1, 1)))
        self.assertEqual(self.assert_told(SCATTERED, (0, 0)), "two")
        for crossings in ((0, 1), (1, 0), (1, 1)):
            self.assertEqual(self.assert_told(SCATTERED, crossings), "one")
        self.assertEqual(self.assert_told(SEVERAL, (1, 1, 1, 0, 1, 0)), "two")
        self.assertEqual(self.assert_told(SEVERAL, (1, 1, 0, 0, 1, 0)), "one")

    def test_a_floor_of_two_sides_has_an_even_lack(self):
        for web, order, crossings in crossed_floors(SMALL_WEBS):
            if sides(web, crossings)[0] == "two":
                self.assertEqual(lack(web, order, crossings) % 2, 0)


class ShowingSides(unittest.TestCase):
    def assert_shows(self, web, crossings, thing, whether):
        before = repr(thing)
        self.assertIs(shows_sides(web, crossings, thing), whether, (web, crossings, thing))
        self.assertEqual(repr(thing), before)

    def test_every_way_to_give_sides(self):
        for web, crossings in every_crossing([web for web in SMALL_WEBS if web[0] <= 4]):
            firsts = [part[0] for part in parts_of(web)]
            for given in itertools.product((0, 1), repeat=web[0]):
                right = all((given[a] != given[b]) == bool(x) for (a, b), x in zip(web[1], crossings))
                right = right and all(given[first] == 0 for first in firsts)
                self.assert_shows(web, crossings, ("two", given), right)

    def test_every_short_ring(self):
        for web in (LOOP, THETA, TRIANGLE, DUMBBELL):
            for crossings in some_crossings(web):
                for many in range(4):
                    for ring in itertools.product(range(-1, 2 * len(web[1]) + 1), repeat=many):
                        self.assert_shows(web, crossings, ("one", ring), self.is_right(web, crossings, ring))

    def is_right(self, web, crossings, ring):
        if not ring or min(ring) < 0 or max(ring) >= 2 * len(web[1]):
            return False
        places = [place for tie in web[1] for place in tie]
        left = [places[end + 1 if end % 2 == 0 else end - 1] for end in ring]
        fits = left == [places[end] for end in ring[1:] + ring[:1]]
        return fits and sum(crossings[end // 2] for end in ring) % 2 == 1

    def test_rings_through_a_tie_more_than_once(self):
        self.assert_shows(LOOP, (1,), ("one", (0, 0, 0)), True)
        self.assert_shows(LOOP, (1,), ("one", (0, 1, 0)), True)
        self.assert_shows(LOOP, (1,), ("one", (0, 1)), False)
        self.assert_shows(LOOP, (1,), ("one", (1,) * 101), True)
        self.assert_shows(LOOP, (1,), ("one", (1,) * 100), False)
        self.assert_shows(DUMBBELL, (1, 1, 0), ("one", (2, 4, 3, 0)), True)
        self.assert_shows(DUMBBELL, (1, 1, 0), ("one", (2, 4, 3, 0, 0)), False)
        self.assert_shows(DUMBBELL, (0, 1, 1), ("one", (2, 4, 3)), True)
        self.assert_shows(TRIANGLE, (1, 0, 0), ("one", (0, 2, 4) * 3), True)
        self.assert_shows(TRIANGLE, (1, 0, 0), ("one", (0, 2, 4) * 2), False)

    def test_rings_begun_anywhere_and_gone_the_other_way_about(self):
        for ring in ((0, 2, 4), (2, 4, 0), (4, 0, 2), (5, 3, 1), (3, 1, 5), (1, 5, 3)):
            self.assert_shows(TRIANGLE, (1, 1, 1), ("one", ring), True)
            self.assert_shows(TRIANGLE, (1, 1, 0), ("one", ring), False)
        for ring in ((0, 4, 2), (0, 2), (2, 4), (0, 3, 4), (0,), ()):
            self.assert_shows(TRIANGLE, (1, 1, 1), ("one", ring), False)

    def test_a_ring_that_does_not_come_round_to_its_first_end(self):
        self.assert_shows(DUMBBELL, (1, 0, 0), ("one", (0, 2)), False)
        self.assert_shows(DUMBBELL, (1, 0, 0), ("one", (0, 2, 3)), True)
        self.assert_shows(SCATTERED, (1, 0), ("one", (0, 2)), False)

    def test_sides_that_are_not_0_at_the_first_place_of_a_part(self):
        self.assert_shows(ONE_PLACE, (), ("two", (0,)), True)
        self.assert_shows(ONE_PLACE, (), ("two", (1,)), False)
        self.assert_shows(ONE_TIE, (1,), ("two", (0, 1)), True)
        self.assert_shows(ONE_TIE, (1,), ("two", (1, 0)), False)
        self.assert_shows(SCATTERED, (0, 0), ("two", (0, 0, 0, 0)), True)
        for place in range(4):
            given = tuple(int(other == place) for other in range(4))
            self.assert_shows(SCATTERED, (0, 0), ("two", given), False)

    def test_sides_too_many_too_few_or_none(self):
        for given in ((), (0,), (0, 1, 0), (0, 1, 0, 1), (0, 2), (0, -1), (0, 3), (2, 1), (-1, 0), (0, LONG[0]), LONG):
            self.assert_shows(ONE_TIE, (1,), ("two", given), False)

    def test_numbers_that_are_no_ends(self):
        for end in (-1, -2, 2, 3, 48) + LONG:
            self.assert_shows(LOOP, (1,), ("one", (end,)), False)
            self.assert_shows(LOOP, (1,), ("one", (0, end, 0)), False)

    def test_lists_in_the_place_of_tuples(self):
        for thing in (["two", (0, 1)], ["two", [0, 1]], ("two", [0, 1])):
            self.assert_shows(ONE_TIE, (1,), thing, False)
        for thing in (["one", (0,)], ["one", [0]], ("one", [0]), ("one", ([0],)), ("one", ((0,),))):
            self.assert_shows(LOOP, (1,), thing, False)

    def test_truths_in_the_place_of_numbers(self):
        for given in ((False, True), (0, True), (False, 1)):
            self.assert_shows(ONE_TIE, (1,), ("two", given), False)
        self.assert_shows(ONE_PLACE, (), ("two", (False,)), False)
        for ring in ((False,), (True,), (0, 0, False), (1, True, 1)):
            self.assert_shows(LOOP, (1,), ("one", ring), False)

    def test_the_right_tuple_with_another_text(self):
        for word in ("one", "Two", "two ", " two", "", "TWO", "t", "2", "tw", "three"):
            self.assert_shows(ONE_TIE, (1,), (word, (0, 1)), False)
        for word in ("two", "One", "one ", "", "1", "on"):
            self.assert_shows(LOOP, (1,), (word, (0,)), False)
        for word in STRANGE + (0, 1, 2, ("two",), ["two"], ("one",), {"two": 0}):
            self.assert_shows(ONE_TIE, (1,), (word, (0, 1)), False)
            self.assert_shows(LOOP, (1,), (word, (0,)), False)

    def test_tuples_of_one_or_three_things(self):
        given = (0, 1)
        for thing in ((), ("two",), ("two", given, ()), ("two", given, given), ("two", 0, 1), (given, "two"), given):
            self.assert_shows(ONE_TIE, (1,), thing, False)
        for thing in ((), ("one",), ("one", (0,), 0), ("one", 0), ((0,), "one"), (0,), ("one", (0,), (0,))):
            self.assert_shows(LOOP, (1,), thing, False)

    def test_strange_things(self):
        for thing in STRANGE + (0, 1, -1, "two", "one", "no", [], (), {"two": (0, 1)}, {"one": (0,)}) + LONG:
            for web, crossings in ((ONE_TIE, (1,)), (LOOP, (1,)), (ONE_PLACE, ()), (THETA, (1, 0, 1))):
                for whole in (thing, ("two", thing), ("one", thing), (thing, thing), (thing,), [thing]):
                    self.assert_shows(web, crossings, whole, False)
        for thing in STRANGE:
            self.assert_shows(ONE_TIE, (1,), ("two", (0, thing)), False)
            self.assert_shows(ONE_TIE, (1,), ("two", (thing, 1)), False)
            self.assert_shows(LOOP, (1,), ("one", (thing,)), False)
            self.assert_shows(LOOP, (1,), ("one", (0, thing, 0)), False)

    def test_what_another_floor_tells(self):
        self.assert_shows(LOOP, (1,), ("two", (0,)), False)
        self.assert_shows(LOOP, (0,), ("one", (0,)), False)
        self.assert_shows(ONE_PLACE, (), ("one", ()), False)
        self.assert_shows(ONE_PLACE, (), ("one", (0,)), False)
        for web, crossings in every_crossing(WEBS):
            for k in range(len(crossings)):
                other = crossings[:k] + (1 - crossings[k],) + crossings[k + 1:]
                word, shown = sides(web, other)
                if word == "two":
                    self.assert_shows(web, crossings, (word, shown), False)
                else:
                    self.assert_shows(web, crossings, (word, shown), self.is_right(web, crossings, shown))


class TurningOver(unittest.TestCase):
    def test_a_place_of_each_kind(self):
        web = (4, ((0, 1), (1, 1), (2, 0), (1, 2)))
        order = ((0, 5), (1, 2, 3, 6), (4, 7), ())
        self.assertEqual(
            turned_over(web, order, (0, 1, 0, 1), 1), (((0, 5), (1, 6, 3, 2), (4, 7), ()), (1, 1, 0, 0))
        )
        self.assertEqual(turned_over(web, order, (0, 1, 0, 1), 0), (order, (1, 1, 1, 1)))
        self.assertEqual(turned_over(web, order, (0, 1, 0, 1), 3), (order, (0, 1, 0, 1)))

    def test_a_tie_with_both_ends_at_the_place_keeps_its_crossing(self):
        for crossings in itertools.product((0, 1), repeat=3):
            order = ((0, 2, 1), (3, 4, 5))
            told = turned_over(DUMBBELL, order, crossings, 0)
            self.assertEqual(told, (((0, 1, 2), (3, 4, 5)), (crossings[0], 1 - crossings[1], crossings[2])))

    def test_lack_and_sides_stay(self):
        for web, order, crossings in crossed_floors(most=4):
            before = copy.deepcopy((web, order, crossings))
            for place in range(web[0])[:8]:
                told = turned_over(web, order, crossings, place)
                self.assertEqual([type(told), type(told[0]), type(told[1]), len(told)], [tuple, tuple, tuple, 2])
                self.assertEqual(order_of(web, told[0]), told[0])
                self.assertTrue(all(type(crossing) is int and crossing in (0, 1) for crossing in told[1]))
                self.assertEqual(len(told[1]), len(web[1]))
                self.assertEqual(lack(web, told[0], told[1]), lack(web, order, crossings))
                self.assertEqual(sides(web, told[1])[0], sides(web, crossings)[0])
                self.assertEqual(turned_over(web, told[0], told[1], place), (order, crossings))
            self.assertEqual((web, order, crossings), before)

    def test_all_places_turned_over_are_the_mirrored_order(self):
        for web, order, crossings in crossed_floors(most=3):
            told = (order, crossings)
            for place in range(web[0]):
                told = turned_over(web, told[0], told[1], place)
            turned = tuple(row[:1] + row[:0:-1] for row in order)
            self.assertEqual(told, (turned, crossings))
