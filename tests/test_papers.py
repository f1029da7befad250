import copy

from holefloor.counting import most
from holefloor.errors import Apart, TooGreat
from holefloor.holes import holes
from holefloor.numbers import orders_many
from holefloor.papers import most_papers
from holefloor.sets import set_bars
from holefloor.trees import laid, tree_shows
from tests.refusing import Refusing
from tests.samples import (
    DUMBBELL, FOUR_ALL, LONG_PATH, LOOP, LOOPS_24, NO_TIES, ONE_PLACE, ONE_TIE, PATH, SCATTERED, SEVERAL, SMALL_WEBS,
    STAR, THETA, THREE_BY_THREE, THREE_LOOPS, TIES_24, TRIANGLE, TWO_LOOPS, bags_of, mixed, varied_webs,
)

TEN_LOOPS = (1, ((0, 0),) * 10)
TEN_TIES = (2, ((0, 1), (1, 0)) * 5)
FIVE_ALL = (5, tuple((a, b) for b in range(5) for a in range(b)))
PATH_OF_TEN = (11, tuple((k + 1, k) for k in range(10)))
RING_OF_TEN = (10, tuple((k, (k + 1) % 10) for k in range(10)))
# Ties from a place to itself, each at a place of its own, so that no two ties beside the tree meet.
LOOPED_STAR = (6, ((0, 1), (1, 1), (0, 2), (2, 2), (0, 3), (3, 3), (0, 4), (4, 4), (0, 5), (5, 5)))
LOOPED_PATH = (5, ((0, 0), (0, 1), (1, 1), (1, 2), (2, 2), (2, 3), (3, 3), (3, 4), (4, 4)))
# Rings of three and two ties that hang together by single places and ties.
CHAINED = (6, ((0, 1), (1, 2), (2, 0), (2, 3), (3, 4), (4, 3), (4, 5), (5, 5), (5, 4), (0, 0)))
# Two places, each tied to each of three others; the first four ties make a tree beside which no two ties meet.
TWO_BY_THREE = (5, ((2, 1), (0, 3), (0, 4), (4, 1), (0, 2), (1, 3)))
KNOWN = (
    (ONE_PLACE, 0), (LOOP, 0), (TWO_LOOPS, 1), (THREE_LOOPS, 1), (ONE_TIE, 0), (THETA, 1), (PATH, 0), (STAR, 0),
    (DUMBBELL, 0), (FOUR_ALL, 1), (THREE_BY_THREE, 2), (TRIANGLE, 0), (TEN_LOOPS, 5), (TEN_TIES, 4), (FIVE_ALL, 3),
    (PATH_OF_TEN, 0), (RING_OF_TEN, 0), (LOOPED_STAR, 0), (LOOPED_PATH, 0),
    (TWO_BY_THREE, 1), ((2, ((0, 1), (0, 0), (1, 1))), 0),
)


def of_one_part():
    yield from (web for web in SMALL_WEBS if len(bags_of(web)) == 1)
    yield from (TEN_LOOPS, TEN_TIES, FIVE_ALL, PATH_OF_TEN, RING_OF_TEN, LOOPED_STAR, LOOPED_PATH, CHAINED)
    yield TWO_BY_THREE
    yield from varied_webs(150, 8, 10, 7)
    yield from (web for web in varied_webs(150, 11, 10, 8) if len(web[1]) == 10)


class MostPapers(Refusing):
    def test_known_most(self):
        for web, many in KNOWN:
            self.assertEqual(most_papers(web)[0], many, web)

    def test_both_papers_are_right_and_meet(self):
        for web in of_one_part():
            told = most_papers(web)
            self.assertEqual([type(told), len(told), type(told[0])], [tuple, 3, int])
            many, tree_paper, set_paper = told
            self.assertEqual(tree_shows(web, tree_paper), many, (web, told))
            self.assertEqual(set_bars(web, set_paper), many, (web, told))
            self.assertEqual(len(tree_paper[1]), many)

    def test_the_order_laid_by_the_tree_paper_has_just_these_holes(self):
        for web in of_one_part():
            many, tree_paper, set_paper = most_papers(web)
            self.assertEqual(holes(web, laid(web, tree_paper)), many, web)

    def test_the_most_of_webs_of_few_orders(self):
        webs = [web for web in of_one_part() if orders_many(web) <= 960]
        self.assertGreater(len(webs), 50)
        for web in webs:
            self.assertEqual(most_papers(web)[0], most(web)[0], web)

    def test_webs_of_just_ten_ties_of_all_sorts(self):
        webs = [web for web in of_one_part() if len(web[1]) == 10]
        self.assertGreater(len({web[0] for web in webs}), 6)

    def test_ties_numbered_in_many_ways(self):
        tied_once_more = (5, TWO_BY_THREE[1] + ((2, 3),))
        # Beyond single ties two places with ties to themselves, which no pair can use.
        looped = (7, TWO_BY_THREE[1] + ((2, 5), (5, 5), (3, 6), (6, 6)))
        for web, right in ((TWO_BY_THREE, 1), (tied_once_more, 1), (looped, 1), (CHAINED, most_papers(CHAINED)[0])):
            for seed in range(50):
                other = (web[0], tuple(web[1][tie] for tie in mixed(len(web[1]), seed)))
                many, tree_paper, set_paper = most_papers(other)
                self.assertEqual((many, tree_shows(other, tree_paper), set_bars(other, set_paper)), (right,) * 3)

    def test_told_again_alike_and_the_web_as_it_was(self):
        for web, many in KNOWN:
            before = copy.deepcopy(web)
            self.assertEqual(repr(most_papers(web)), repr(most_papers(copy.deepcopy(web))))
            self.assertEqual(web, before)

    def test_several_parts(self):
        eleven = (3, ((0, 1),) * 11)
        for web in (SEVERAL, SCATTERED, NO_TIES, (2, ()), (2, ((0, 0),) * 10), eleven, (2, ((1, 1),) * 24)):
            self.assert_refused(Apart, most_papers, web)

    def test_eleven_ties_and_more(self):
        eleven = ((1, ((0, 0),) * 11), (2, ((0, 1),) * 11), (12, tuple((0, k) for k in range(1, 12))))
        for web in eleven + (LONG_PATH, LOOPS_24, TIES_24):
            self.assert_refused(TooGreat, most_papers, web)
