import copy
import itertools
from fractions import Fraction

from holefloor.sets import set_bars
from tests.refusing import LONG, STRANGE, Refusing
from tests.samples import (
    CUBE, DUMBBELL, FOUR_ALL, HEAWOOD, LONG_PATH, LOOP, LOOPS_24, NO_TIES, ONE_PLACE, ONE_TIE, PETERSEN, RING_OF_24,
    SCATTERED, SEVERAL, SIXTEEN, SMALL_WEBS, THETA, THREE_LOOPS, TIES_24, TRIANGLE, TWO_LOOPS, bags_of, holes_by_hand,
    orders_by_hand, varied_webs,
)

GREAT = (LONG_PATH, LOOPS_24, TIES_24, RING_OF_24, CUBE, PETERSEN, HEAWOOD, SIXTEEN)
SMALL = tuple(web for web in SMALL_WEBS if len(bags_of(web)) == 1)
APART = (SEVERAL, SCATTERED, NO_TIES, (2, ()), (2, ((0, 0), (1, 1))))


def all_sets(web):
    for many in range(len(web[1]) + 1):
        yield from itertools.combinations(range(len(web[1])), many)


def some_sets(web):
    ties = tuple(range(len(web[1])))
    yield from {(), ties, ties[:1], ties[-1:], ties[::2], ties[1::2], ties[::3], ties[2:9], ties[5:], ties[:-5]}


def bars_by_hand(web, paper):
    rest = [pair for tie, pair in enumerate(web[1]) if tie not in paper]
    bags = bags_of((web[0], rest))
    ranks = [sum({a, b} <= bag for a, b in rest) - len(bag) + 1 for bag in bags]
    odd = sum(rank % 2 for rank in ranks)
    rank = len(web[1]) - web[0] + 1
    return Fraction(rank - len(bags) - odd + len(paper) + 1, 2)


class SetPapers(Refusing):
    def test_known_bars(self):
        self.assertEqual(set_bars(ONE_PLACE, ()), 0)
        self.assertEqual(set_bars(LOOP, ()), 0)
        self.assertEqual(set_bars(LOOP, (0,)), 1)
        self.assertEqual(set_bars(TWO_LOOPS, ()), 1)
        self.assertEqual(set_bars(THREE_LOOPS, ()), 1)
        self.assertEqual(set_bars(THETA, ()), 1)
        self.assertEqual(set_bars(THETA, (0, 1, 2)), 2)
        # Without the tie between them both places have the odd rank 1.
        self.assertEqual(set_bars(DUMBBELL, ()), 1)
        self.assertEqual(set_bars(DUMBBELL, (1,)), 0)
        self.assertEqual(set_bars(FOUR_ALL, ()), 1)
        self.assertEqual(set_bars(LOOPS_24, ()), 12)
        self.assertEqual(set_bars(TIES_24, ()), 11)

    def test_the_half_reckoned_by_other_means(self):
        for web in SMALL + tuple(varied_webs(80, 7, 8)):
            for paper in all_sets(web):
                told = set_bars(web, paper)
                self.assertIs(type(told), int)
                self.assertEqual(told, bars_by_hand(web, paper), (web, paper))

    def test_great_webs(self):
        for web in GREAT + tuple(varied_webs(60, 25, 24, 3)):
            for paper in some_sets(web):
                told = set_bars(web, paper)
                self.assertIs(type(told), int)
                self.assertEqual(told, bars_by_hand(web, paper), (web, paper))

    def test_no_order_has_more_holes(self):
        for web in SMALL + tuple(web for web in varied_webs(60, 5, 6, 4) if web[0] > 2 or len(web[1]) <= 3):
            most = max(holes_by_hand(web, order) for order in orders_by_hand(web))
            for paper in all_sets(web):
                self.assertGreaterEqual(set_bars(web, paper), most, (web, paper))

    def test_what_is_no_rising_tuple_of_ties(self):
        for web in (THETA, TRIANGLE, DUMBBELL, THREE_LOOPS):
            self.assertIsNotNone(set_bars(web, (0, 2)))
            for paper in (
                [], [0], [0, 2], (0, 0), (0, 2, 2), (0, 0, 2), (2, 0), (1, 0), (2, 1, 0), (0, 2, 1), (-1,), (-1, 0),
                (-3, -2, -1), (3,), (0, 3), (0, 1, 2, 3), (True,), (False,), (False, True), (0, True), (0, True, 2),
                (0, None), (None, 0), (0, "1"), ("0",), (0, (1,)), ((0,), (1,)), ((0, 1),), (0, [1]), ([],), ((),),
                ({},), "0", "01", "", {0: 1}, {}, None, True, False, 0, 1, -1, (24,), (48,), (0, 1, 2, 2),
                (LONG[0],), (LONG[1],), (0, LONG[0]), LONG,
            ):
                self.assert_told_none(set_bars, web, paper)

    def test_strange_things(self):
        for web in (ONE_PLACE, ONE_TIE, LOOP, THETA, LOOPS_24):
            for thing in STRANGE + LONG + (-1, 24, [], [0]):
                self.assert_told_none(set_bars, web, thing)
                self.assert_told_none(set_bars, web, (thing,))
                self.assert_told_none(set_bars, web, (0, thing, 2))
                self.assert_told_none(set_bars, web, (thing, thing))

    def test_a_web_without_ties(self):
        for paper in ((0,), (1,), (-1,), [], (0, 1)):
            self.assert_told_none(set_bars, ONE_PLACE, paper)

    def test_all_papers_of_a_web_of_several_parts(self):
        for web in APART:
            for paper in STRANGE + tuple(some_sets(web)) + ([], (0,), 0, -1) + LONG:
                self.assert_told_none(set_bars, web, paper)

    def test_asked_again_the_same_and_all_as_it_was(self):
        for web in SMALL:
            for paper in all_sets(web):
                before = copy.deepcopy((web, paper))
                self.assertEqual(set_bars(web, paper), set_bars(web, paper))
                self.assertEqual((web, paper), before)
