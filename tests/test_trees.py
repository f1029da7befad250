import copy
import itertools

from holefloor.errors import NoPaper
from holefloor.holes import holes
from holefloor.orders import order_of
from holefloor.trees import laid, tree_shows
from tests.refusing import LONG, STRANGE, Refusing
from tests.samples import (
    CUBE, DUMBBELL, FOUR_ALL, HEAWOOD, LONG_PATH, LOOP, LOOPS_24, NO_TIES, ONE_PLACE, ONE_TIE, PATH, PETERSEN,
    RING_OF_24, SCATTERED, SEVERAL, SIXTEEN, SMALL_WEBS, STAR, THETA, THREE_BY_THREE, THREE_LOOPS, TIES_24, TRIANGLE,
    TWO_LOOPS, bags_of, holes_by_hand, varied_webs,
)

SMALL = tuple(web for web in SMALL_WEBS if len(bags_of(web)) == 1)
GREAT = (LONG_PATH, LOOPS_24, TIES_24, RING_OF_24, CUBE, PETERSEN, HEAWOOD, SIXTEEN)
APART = (SEVERAL, SCATTERED, NO_TIES, (2, ()), (2, ((0, 0), (1, 1))))
# Places 0 to 4 round a ring, a tie across it, and ties from places 2 and 4 to themselves.
WEB = (5, ((0, 1), (1, 2), (2, 3), (3, 4), (4, 0), (2, 2), (0, 2), (4, 4)))
TREE = (0, 1, 2, 3)
# Beside this tree tie 4 meets 6 and 7, and tie 5 meets 6.


def trees_by_hand(web):
    for tree in itertools.combinations(range(len(web[1])), web[0] - 1):
        if len(bags_of((web[0], [web[1][tie] for tie in tree]))) == 1:
            yield tree


def first_trees(web, many):
    """Trees that are come to by taking ties from the first on, from the last on and from the midst on."""
    ties = len(web[1])
    for begun in range(0, ties + 1, max(1, ties // many)):
        tree = []
        for tie in list(range(begun, ties)) + list(range(begun)):
            if len(bags_of((web[0], [web[1][k] for k in tree + [tie]]))) == web[0] - len(tree) - 1:
                tree.append(tie)
        yield tuple(sorted(tree))


def all_pairings(web, ties):
    """All tuples of pairs of these ties that meet, none twice, in one order of the pairs."""
    if not ties:
        yield ()
        return
    yield from all_pairings(web, ties[1:])
    for other in ties[1:]:
        if set(web[1][ties[0]]) & set(web[1][other]):
            for pairs in all_pairings(web, [tie for tie in ties[1:] if tie != other]):
                yield ((ties[0], other),) + pairs


def greedy_pairing(web, ties):
    pairs = []
    while ties:
        near = [tie for tie in ties[1:] if set(web[1][tie]) & set(web[1][ties[0]])]
        pairs += [(ties[0], near[0])] if near else []
        ties = [tie for tie in ties[1:] if tie not in near[:1]]
    return tuple(pairs)


def others(web, tree):
    return [tie for tie in range(len(web[1])) if tie not in tree]


def right_papers():
    """Webs with right papers of them: with no pair, with some and with many."""
    for web in SMALL + tuple(varied_webs(25, 5, 7)):
        for tree in trees_by_hand(web):
            for pairs in itertools.islice(all_pairings(web, others(web, tree)), 40):
                yield web, (tree, pairs)
    for web in GREAT + tuple(varied_webs(60, 25, 24, 5)):
        for tree in first_trees(web, 3):
            pairs = greedy_pairing(web, others(web, tree))
            for some in {pairs, (), pairs[:1], pairs[1:], pairs[::-1], pairs[::2]}:
                yield web, (tree, some)


class TreePapers(Refusing):
    def test_a_web_of_one_place_without_ties(self):
        self.assertEqual(tree_shows(ONE_PLACE, ((), ())), 0)
        self.assertEqual(laid(ONE_PLACE, ((), ())), ((),))
        for paper in (((0,), ()), ((), (0,)), ((), ((0, 1),)), ((), ((),)), (), ((),), ((), (), ()), [(), ()]):
            self.assert_wrong(ONE_PLACE, paper)

    def test_known_papers(self):
        self.assertEqual(tree_shows(LOOP, ((), ())), 0)
        self.assertEqual(tree_shows(TWO_LOOPS, ((), ((0, 1),))), 1)
        self.assertEqual(tree_shows(LOOPS_24, ((), tuple((k, k + 12) for k in range(12)))), 12)
        self.assertEqual(tree_shows(THETA, ((0,), ((1, 2),))), 1)
        self.assertEqual(tree_shows(THETA, ((1,), ((0, 2),))), 1)
        self.assertEqual(tree_shows(LONG_PATH, (tuple(range(24)), ())), 0)
        self.assertEqual(tree_shows(WEB, (TREE, ())), 0)
        self.assertEqual(tree_shows(WEB, (TREE, ((5, 6),))), 1)
        self.assertEqual(tree_shows(WEB, (TREE, ((4, 6),))), 1)
        self.assertEqual(tree_shows(WEB, (TREE, ((5, 6), (4, 7)))), 2)
        self.assertEqual(tree_shows(WEB, (TREE, ((4, 7), (5, 6)))), 2)

    def test_as_many_holes_as_pairs(self):
        for web, paper in right_papers():
            told = tree_shows(web, paper)
            self.assertIs(type(told), int)
            self.assertEqual(told, len(paper[1]), (web, paper))
            self.assertEqual(tree_shows(web, copy.deepcopy(paper)), told)

    def test_just_the_trees(self):
        for web in SMALL + tuple(varied_webs(15, 5, 7, 6)):
            trees = set(trees_by_hand(web))
            for many in range(len(web[1]) + 1):
                for ties in itertools.combinations(range(len(web[1])), many):
                    self.assertEqual(tree_shows(web, (ties, ())), 0 if ties in trees else None, (web, ties))
        self.assertEqual(len(set(trees_by_hand(FOUR_ALL))), 16)

    def test_just_the_pairs(self):
        right = set(all_pairings(WEB, others(WEB, TREE)))
        pairs = list(itertools.product(range(-1, 9), repeat=2))
        self.assertEqual(tree_shows(WEB, (TREE, ())), 0)
        for one in pairs:
            self.assertEqual(tree_shows(WEB, (TREE, (one,))), 1 if (one,) in right else None, one)
            for two in pairs:
                both = tuple(sorted((one, two)))
                self.assertEqual(tree_shows(WEB, (TREE, (one, two))), 2 if both in right else None, both)

    def test_wrong_trees(self):
        for tree in (
            (), (0, 1, 2), (1, 2, 3, 4, 5), (0, 1, 2, 3, 4), (1, 0, 2, 3), (3, 2, 1, 0), (0, 1, 3, 2), (0, 1, 2, 2),
            (0, 1, 2, 3, 3), (0, 0, 1, 2), (0, 1, 2, 5), (0, 1, 6, 7), (0, 1, 2, 6), (-1, 0, 1, 2), (0, 1, 2, 8),
            (0, 1, 2, -1), (False, True, 2, 3), (0, True, 2, 3), (False, 1, 2, 3), (0, 1, 2, "3"), (0, 1, 2, None),
            (0, 1, 2, (3,)), (0, 1, 2, [3]), (0, 1, 2, {}), [0, 1, 2, 3], {0: 1, 2: 3}, "0123", None, True, 0,
            ((0, 1, 2, 3),), (LONG[1], 0, 1, 2), (0, 1, 2, LONG[0]),
        ):
            self.assert_wrong(WEB, (tree, ()))
            self.assert_wrong(WEB, (tree, ((4, 7),)))

    def test_wrong_pairs(self):
        for pairs in (
            ((6, 5),), ((5, 5),), ((5, 7),), ((6, 7),), ((0, 1),), ((0, 4),), ((3, 4),), ((1, 5),), ((4, 6), (5, 6)),
            ((5, 6), (5, 6)), ((4, 7), (4, 6)), ((4, 7), (6, 5)), ((4, 7), (0, 6)), ((4, 8),), ((-1, 4),), ((-4, 7),),
            ((4,),), ((),), ((4, 6, 7),), ((4, 7), ()), (4, 7), (4,), ([4, 7],), ((4, 7), [5, 6]), [(4, 7)], [],
            ((4, 7), (5, True)), ((True, 6),), ((False, True),), ((4, None),), ((None, 7),), (None,), ("47",),
            ((4, "7"),), ("4", "7"), "", "47", {}, {4: 7}, ({4: 7},), ((4, (7,)),), ((4, [7]),), (((4, 7),),), None,
            True, False, 0, 1, -1, ((4, LONG[0]),), ((LONG[1], 4),), ((4, 7), None), (None, (4, 7)),
        ):
            self.assert_wrong(WEB, (TREE, pairs))

    def test_truths_that_would_fit_as_numbers(self):
        self.assertEqual(tree_shows(TWO_LOOPS, ((), ((0, 1),))), 1)
        for pair in ((False, 1), (0, True), (False, True)):
            self.assert_wrong(TWO_LOOPS, ((), (pair,)))
        self.assertEqual(tree_shows(ONE_TIE, ((0,), ())), 0)
        self.assert_wrong(ONE_TIE, ((False,), ()))

    def test_wrong_papers(self):
        for paper in (
            (), (TREE,), (TREE, (), ()), (TREE, (), None), [TREE, ()], [list(TREE), []], (list(TREE), ()), (TREE, []),
            TREE, ((), TREE), {0: TREE, 1: ()}, {TREE: ()}, (TREE, ((4, 7),), ((5, 6),)), (TREE, (4, 7)), ((TREE, ()),),
            "", "((0, 1, 2, 3), ())", None, True, False, 0, 1, -1,
        ):
            self.assert_wrong(WEB, paper)

    def test_strange_things(self):
        for web in (ONE_PLACE, ONE_TIE, LOOP, THETA, FOUR_ALL):
            for thing in STRANGE + LONG + (-1, 24, [], [0]):
                self.assert_wrong(web, thing)
                self.assert_wrong(web, (thing, thing))
                self.assert_wrong(web, (thing, ()))
                self.assert_wrong(web, ((thing,), ()))
                for tree in itertools.islice(trees_by_hand(web), 2):
                    self.assert_wrong(web, (tree, thing))
                    self.assert_wrong(web, (tree, (thing,)))
                    self.assert_wrong(web, (tree, ((thing, thing),)))

    def test_all_papers_of_a_web_of_several_parts(self):
        for web in APART:
            ties = tuple(range(len(web[1])))
            for tree in (ties, ties[:-1], ties[1:], (), (0,) * (web[0] - 1), tuple(range(web[0] - 1))):
                self.assert_wrong(web, (tree, ()))
                self.assert_wrong(web, (tree, ((0, 1),)))
            for thing in STRANGE:
                self.assert_wrong(web, thing)

    def assert_wrong(self, web, paper):
        self.assert_told_none(tree_shows, web, paper)
        self.assert_refused(NoPaper, laid, web, paper)


class Laid(Refusing):
    def assert_laid(self, web, paper):
        before = copy.deepcopy((web, paper))
        order = laid(web, paper)
        self.assertEqual([type(order)] + [type(row) for row in order], [tuple] * (1 + web[0]))
        self.assertEqual(order_of(web, order), order)
        self.assertEqual({type(end) for row in order for end in row} | {int}, {int})
        self.assertGreaterEqual(holes_by_hand(web, order), len(paper[1]), (web, paper))
        self.assertEqual(holes(web, order), holes_by_hand(web, order))
        self.assertEqual(laid(web, paper), order)
        self.assertEqual((web, paper), before)

    def test_at_least_as_many_holes_as_pairs(self):
        for web, paper in right_papers():
            self.assert_laid(web, paper)

    def test_known_most(self):
        for web, paper, most in (
            (TWO_LOOPS, ((), ((0, 1),)), 1),
            (THREE_LOOPS, ((), ((0, 2),)), 1),
            (THETA, ((2,), ((0, 1),)), 1),
            (FOUR_ALL, ((0, 1, 2), ((3, 4),)), 1),
            (THREE_BY_THREE, ((0, 1, 2, 3, 6), ((4, 5), (7, 8))), 2),
            (LOOPS_24, ((), tuple((k, k + 1) for k in range(0, 24, 2))), 12),
            (TIES_24, ((11,), tuple((k, k + 12) for k in range(11))), 11),
        ):
            self.assertEqual(holes(web, laid(web, paper)), most, web)

    def test_trees_alone(self):
        for web in (ONE_PLACE, ONE_TIE, PATH, STAR, LONG_PATH):
            order = laid(web, (tuple(range(web[0] - 1)), ()))
            self.assertEqual(order_of(web, order), order)
            self.assertEqual(holes(web, order), 0)

    def test_every_pairing_of_a_web_in_every_order_of_the_pairs(self):
        for pairs in all_pairings(WEB, others(WEB, TREE)):
            for turned in itertools.permutations(pairs):
                self.assert_laid(WEB, (TREE, turned))

    def test_ties_in_every_direction(self):
        ties = ((0, 1), (1, 2), (0, 2), (2, 2))
        for turned in itertools.product((1, -1), repeat=4):
            web = (3, tuple(pair[::turn] for pair, turn in zip(ties, turned)))
            for tree in ((0, 1), (0, 2)):
                rest = tuple(others(web, tree))
                self.assert_laid(web, (tree, (rest,)))

    def test_a_triangle_has_no_pair(self):
        self.assert_laid(TRIANGLE, ((0, 1), ()))
        self.assert_refused(NoPaper, laid, TRIANGLE, ((0, 1), ((2, 2),)))
        self.assert_refused(NoPaper, laid, DUMBBELL, ((1,), ((0, 2),)))
