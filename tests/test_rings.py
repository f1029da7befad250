import copy
import itertools
import math
from fractions import Fraction

from holefloor.errors import Apart, NoRing
from holefloor.rings import ring_bars, ring_paper
from tests.refusing import LONG, STRANGE, Refusing
from tests.samples import (
    CUBE, DUMBBELL, FOUR_ALL, HEAWOOD, LONG_PATH, LOOP, LOOPS_24, NO_TIES, ONE_PLACE, ONE_TIE, ORDERS_1024, PATH,
    PETERSEN, RING_OF_24, SCATTERED, SEVERAL, SIXTEEN, SMALL_WEBS, STAR, THETA, THREE_BY_THREE, TIES_24, TRIANGLE,
    TWO_LOOPS, bags_of, holes_by_hand, orders_by_hand, varied_webs,
)

# A ring of four ties, a tie that leads away from it, and a ring of three beyond.
TAILED = (7, ((0, 1), (1, 2), (3, 2), (3, 0), (1, 4), (4, 5), (5, 6), (6, 4)))
WITHOUT_RING = (ONE_PLACE, ONE_TIE, PATH, STAR, LONG_PATH)
GREAT = (RING_OF_24, CUBE, PETERSEN, HEAWOOD, SIXTEEN, ORDERS_1024, LOOPS_24, TIES_24, TAILED)


def with_rings():
    """Webs of one part with rings."""
    for web in SMALL_WEBS + GREAT + (TRIANGLE,) + tuple(varied_webs(60, 6, 9)) + tuple(varied_webs(60, 25, 24, 2)):
        if len(bags_of(web)) == 1 and len(web[1]) >= web[0]:
            yield web


def small_with_rings():
    for web in with_rings():
        if len(web[1]) <= 9 and math.prod(math.factorial(max(0, many - 1)) for many in ends_many(web)) <= 2000:
            yield web


def ends_many(web):
    return [sum(pair.count(place) for pair in web[1]) for place in range(web[0])]


def has_ring_of(web, length):
    """Whether there is a ring of so many ties, found by going through unlike places."""
    if length == 1:
        return any(a == b for a, b in web[1])
    pairs = [frozenset(pair) for pair in web[1] if pair[0] != pair[1]]
    if length == 2:
        return len(set(pairs)) < len(pairs)
    near = {place: set().union(*[pair for pair in pairs if place in pair]) - {place} for place in range(web[0])}

    def goes_round(path):
        if len(path) == length:
            return path[0] in near[path[-1]]
        return any(goes_round(path + [there]) for there in near[path[-1]] if there not in path)

    return any(goes_round([first]) for first in near)


def shortest_by_hand(web):
    return next(length for length in itertools.count(1) if has_ring_of(web, length))


def bars_by_hand(web, shortest):
    most_faces = math.floor(Fraction(2 * len(web[1]), shortest))
    half = Fraction(2 - web[0] + len(web[1]) - most_faces, 2)
    return next(many for many in itertools.count(0) if many >= half)


def is_right(web, paper):
    """Whether heights of the right form are right as point 24 says."""
    shortest, heights = paper
    for tie, (a, b) in enumerate(web[1]):
        row = heights[tie]
        if row[a] != 0 or row[b] < shortest - 1:
            return False
        for other, (c, d) in enumerate(web[1]):
            if other != tie and not -1 <= row[c] - row[d] <= 1:
                return False
    return shortest >= 1


def moved(paper, tie, place, by):
    rows = [list(row) for row in paper[1]]
    rows[tie][place] += by
    return (paper[0], tuple(tuple(row) for row in rows))


def fewest_by_hand(web):
    return min(holes_by_hand(web, order) for order in orders_by_hand(web))


class RingPapers(Refusing):
    def test_known_shortest_rings(self):
        known = (
            (LOOP, 1), (TWO_LOOPS, 1), (DUMBBELL, 1), (LOOPS_24, 1), (THETA, 2), (TIES_24, 2), (TRIANGLE, 3),
            (FOUR_ALL, 3), (THREE_BY_THREE, 4), (CUBE, 4), (PETERSEN, 5), (HEAWOOD, 6), (SIXTEEN, 6),
            (RING_OF_24, 24), (TAILED, 3), (ORDERS_1024, 4), ((2, ((0, 1), (1, 0))), 2),
            ((3, ((0, 1), (1, 2), (2, 0), (1, 1))), 1),
        )
        for web, shortest in known:
            self.assertEqual(ring_paper(web)[0], shortest, web)

    def test_the_length_of_a_shortest_ring_found_by_other_means(self):
        for web in with_rings():
            self.assertEqual(ring_paper(web)[0], shortest_by_hand(web), web)

    def test_the_form_and_that_it_is_right(self):
        for web in with_rings():
            paper = ring_paper(web)
            self.assertEqual([type(paper), len(paper), type(paper[0]), type(paper[1])], [tuple, 2, int, tuple])
            self.assertEqual(len(paper[1]), len(web[1]))
            for row in paper[1]:
                self.assertEqual([type(row)] + [type(height) for height in row], [tuple] + [int] * web[0])
            self.assertTrue(is_right(web, paper), web)

    def test_told_again_alike_and_the_web_as_it_was(self):
        for web in with_rings():
            before = copy.deepcopy(web)
            self.assertEqual(repr(ring_paper(web)), repr(ring_paper(copy.deepcopy(web))))
            self.assertEqual(web, before)

    def test_several_parts(self):
        without_ring = (3, ((0, 1),)), (2, ()), (25, ((3, 4),))
        for web in (SEVERAL, SCATTERED, NO_TIES, (2, ((0, 0),)), (4, ((0, 1), (1, 0), (2, 3), (3, 2)))) + without_ring:
            self.assert_refused(Apart, ring_paper, web)

    def test_no_ring(self):
        for web in WITHOUT_RING:
            self.assert_refused(NoRing, ring_paper, web)


class WhatRingsBar(Refusing):
    def test_known_bars(self):
        known = ((LOOP, 0), (THETA, 0), (FOUR_ALL, 0), (THREE_BY_THREE, 1), (PETERSEN, 1), (HEAWOOD, 1), (SIXTEEN, 1),
                 (CUBE, 0), (RING_OF_24, 0), (LOOPS_24, 0))
        for web, bars in known:
            self.assertEqual(ring_bars(web, ring_paper(web)), bars, web)
        all_tied = (7, tuple(itertools.combinations(range(7), 2)))
        self.assertEqual(ring_bars(all_tied, ring_paper(all_tied)), 1)
        four_by_six = (10, tuple((a, b) for a in range(4) for b in range(4, 10)))
        self.assertEqual(ring_bars(four_by_six, ring_paper(four_by_six)), 2)

    def test_of_the_told_paper_and_of_each_lesser_length(self):
        for web in with_rings():
            shortest, heights = ring_paper(web)
            for length in range(1, shortest + 1):
                told = ring_bars(web, (length, heights))
                self.assertIs(type(told), int)
                self.assertEqual(told, bars_by_hand(web, length), (web, length))

    def test_of_greater_lengths(self):
        for web in with_rings():
            shortest, heights = ring_paper(web)
            for length in (shortest + 1, shortest + 2, 2 * len(web[1]) + 1, LONG[0]):
                self.assert_told_none(ring_bars, web, (length, heights))
                higher = tuple(tuple(LONG[0] * height for height in row) for row in heights)
                self.assert_told_none(ring_bars, web, (length, higher))

    def test_heights_moved(self):
        for web in list(with_rings())[::3]:
            paper = ring_paper(web)
            for tie in range(len(web[1])):
                for place in range(web[0]):
                    for by in (-2, -1, 1, 2):
                        other = moved(paper, tie, place, by)
                        bars = bars_by_hand(web, paper[0]) if is_right(web, other) else None
                        self.assertEqual(ring_bars(web, other), bars, (web, other))

    def test_heights_moved_where_they_stay_right(self):
        # All that lies beyond the tie that leads away may stand higher, together.
        heights = ring_paper(TAILED)[1]
        for height in (2, 3, 9, LONG[0]):
            row = (0, 0, 0, 0, height, height, height)
            self.assertEqual(ring_bars(TAILED, (3, heights[:4] + (row,) + heights[5:])), bars_by_hand(TAILED, 3))
        for height in (1, 0, -1, -9, LONG[1]):
            row = (0, 0, 0, 0, height, height, height)
            self.assert_told_none(ring_bars, TAILED, (3, heights[:4] + (row,) + heights[5:]))
        # Heights below nought at places that the tie doesn't lead to.
        below = (1, ((0, 0, -1), (-1, 0, 0), (0, -1, 0)))
        self.assertTrue(is_right(TRIANGLE, below))
        self.assertEqual(ring_bars(TRIANGLE, below), 0)

    def test_all_papers_of_small_webs(self):
        for web in (THETA, (2, ((0, 1), (1, 1))), LOOP, TWO_LOOPS):
            fewest = fewest_by_hand(web)
            rows = list(itertools.product((-1, 0, 1, 2), repeat=web[0]))
            for heights in itertools.product(rows, repeat=len(web[1])):
                for length in (-1, 0, 1, 2, 3):
                    paper = (length, heights)
                    told = ring_bars(web, paper)
                    self.assertEqual(told, bars_by_hand(web, length) if is_right(web, paper) else None)
                    self.assertTrue(told is None or told <= fewest)

    def test_no_order_has_fewer_holes(self):
        webs = list(small_with_rings())
        self.assertGreater(len(webs), 20)
        for web in webs:
            shortest, heights = ring_paper(web)
            fewest = fewest_by_hand(web)
            for length in range(1, shortest + 1):
                self.assertLessEqual(ring_bars(web, (length, heights)), fewest, web)

    def test_heights_too_few_or_too_many(self):
        for web in (LOOP, THETA, TRIANGLE, FOUR_ALL, TAILED):
            shortest, heights = ring_paper(web)
            for other in (
                heights[:-1], heights[1:], heights + heights[:1], (), heights[:-1] + ((),), ((),) * len(heights),
                tuple(row[:-1] for row in heights), tuple(row + (0,) for row in heights),
                tuple(row + row[-1:] for row in heights), heights[:-1] + (heights[-1][:-1],),
                heights[:-1] + (heights[-1] + (0,),),
            ):
                self.assert_told_none(ring_bars, web, (1, other))
                self.assert_told_none(ring_bars, web, (shortest, other))

    def test_lists_in_the_place_of_tuples(self):
        for web in (LOOP, THETA, TRIANGLE, FOUR_ALL, TAILED):
            shortest, heights = ring_paper(web)
            self.assertIsNotNone(ring_bars(web, (shortest, heights)))
            for paper in (
                [shortest, heights], (shortest, list(heights)), (shortest, tuple(list(row) for row in heights)),
                (shortest, heights[:-1] + (list(heights[-1]),)), ([shortest], heights), ((shortest,), heights),
                (shortest,) + heights, (heights, shortest), (shortest, heights, ()), (shortest, heights, None),
                (shortest,), heights, (shortest, (heights,)), {0: shortest, 1: heights}, {shortest: heights},
                (shortest, dict(enumerate(heights))), repr((shortest, heights)),
            ):
                self.assert_told_none(ring_bars, web, paper)

    def test_strange_things_in_the_place_of_a_paper_and_of_its_parts(self):
        numbers = (0, 1, -1, -2, -25) + LONG
        for web in (LOOP, TWO_LOOPS, THETA, TRIANGLE, DUMBBELL):
            shortest, heights = ring_paper(web)
            for thing in STRANGE + numbers + ((), [], [0], (2,), (1, -1), (-1, -1)):
                self.assert_told_none(ring_bars, web, thing)
                self.assert_told_none(ring_bars, web, (thing, thing))
                self.assert_told_none(ring_bars, web, (1, thing))
                self.assert_told_none(ring_bars, web, (1, (thing,) * len(web[1])))
                for tie in range(len(web[1])):
                    self.assert_told_none(ring_bars, web, (1, heights[:tie] + (thing,) + heights[tie + 1:]))

    def test_strange_things_in_the_place_of_the_length(self):
        for web in (LOOP, THETA, TRIANGLE):
            heights = ring_paper(web)[1]
            for thing in STRANGE + (0, -1, -2, LONG[1], (), [], (1,), [1]):
                self.assert_told_none(ring_bars, web, (thing, heights))

    def test_strange_things_in_the_place_of_a_height(self):
        for web in (LOOP, THETA, TRIANGLE):
            heights = ring_paper(web)[1]
            for tie, row in enumerate(heights):
                for place in range(web[0]):
                    for thing in STRANGE + LONG + ((), [], (0,), [0]):
                        other = row[:place] + (thing,) + row[place + 1:]
                        self.assert_told_none(ring_bars, web, (1, heights[:tie] + (other,) + heights[tie + 1:]))

    def test_truths_that_would_fit_as_numbers(self):
        self.assertEqual(ring_bars(LOOP, (1, ((0,),))), 0)
        self.assert_told_none(ring_bars, LOOP, (True, ((0,),)))
        self.assert_told_none(ring_bars, LOOP, (1, ((False,),)))
        self.assertEqual(ring_bars(THETA, (2, ((0, 1), (1, 0), (0, 1)))), 0)
        self.assert_told_none(ring_bars, THETA, (2, ((0, True), (1, 0), (0, 1))))
        self.assert_told_none(ring_bars, THETA, (2, ((False, 1), (1, 0), (0, 1))))

    def test_all_papers_of_a_web_of_several_parts_or_without_a_ring(self):
        two_rings = (4, ((0, 1), (1, 0), (2, 3), (3, 2)))
        for web in (SEVERAL, SCATTERED, NO_TIES, (2, ((0, 0), (1, 1))), two_rings) + WITHOUT_RING:
            level = (1, ((0,) * web[0],) * len(web[1]))
            self.assertTrue(is_right(web, level))
            for paper in STRANGE + (level, (1, ()), (2, ()), (0, ()), (), 0, 1, -1) + LONG:
                self.assert_told_none(ring_bars, web, paper)
        self.assert_told_none(ring_bars, ONE_TIE, (1, ((1, 0),)))
        self.assert_told_none(ring_bars, ONE_TIE, (9, ((8, 0),)))

    def test_asked_again_the_same(self):
        for web in with_rings():
            paper = ring_paper(web)
            self.assertEqual(ring_bars(web, paper), ring_bars(web, copy.deepcopy(paper)))
