import copy
import itertools

from holefloor.counting import counts
from holefloor.crossed import lack
from holefloor.crossedcounts import crossed_counts, first_tree
from holefloor.errors import TooMany
from holefloor.numbers import orders_many
from holefloor.webs import parts_of, rank_of
from tests.refusing import Refusing
from tests.samples import (
    DUMBBELL, FOUR_ALL, LONG_PATH, LOOP, LOOPS_24, NO_TIES, ONE_PLACE, ONE_TIE, ORDERS_960, ORDERS_1024, PATH,
    RING_OF_24, SCATTERED, SEVERAL, SMALL_WEBS, STAR, THETA, THREE_BY_THREE, THREE_LOOPS, TIES_24, TWO_LOOPS, WEBS,
    orders_by_hand,
)

# Its first tree is not the shortest way from the first place to the others.
BENT = (3, ((1, 2), (0, 1), (0, 2), (2, 1)))
COUNTED = tuple(web for web in SMALL_WEBS if web != THREE_BY_THREE) + (NO_TIES, LONG_PATH, RING_OF_24, BENT)


def tree_by_hand(web):
    """The first tree, found by bringing together bags of places."""
    bags = [{place} for place in range(web[0])]
    tree = []
    for tie, (a, b) in enumerate(web[1]):
        if bags[a] is not bags[b]:
            tree.append(tie)
            joined = bags[a] | bags[b]
            for place in joined:
                bags[place] = joined
    return tuple(tree)


def has_two_sides(web, crossings):
    """Whether no ring is crossed an odd number of times, found by giving sides from place to place."""
    given = {}
    for first in range(web[0]):
        given.setdefault(first, 0)
        for step in range(web[0]):
            for (a, b), crossing in zip(web[1], crossings):
                for here, there in ((a, b), (b, a)):
                    if here in given:
                        given.setdefault(there, given[here] ^ crossing)
    return all(given[a] ^ given[b] == crossing for (a, b), crossing in zip(web[1], crossings))


def counted_by_hand(web):
    tree = tree_by_hand(web)
    choices = [(0,) if tie in tree else (0, 1) for tie in range(len(web[1]))]
    two, one = [], []
    for crossings in itertools.product(*choices):
        for order in orders_by_hand(web):
            if has_two_sides(web, crossings):
                two.append(lack(web, order, crossings) // 2)
            else:
                one.append(lack(web, order, crossings))
    return tuple([come.count(number) for number in range(max(come, default=-1) + 1)] for come in (two, one))


class FirstTree(Refusing):
    def test_small_webs(self):
        self.assertEqual(first_tree(ONE_PLACE), ())
        self.assertEqual(first_tree(LOOP), ())
        self.assertEqual(first_tree(ONE_TIE), (0,))
        self.assertEqual(first_tree(THETA), (0,))
        self.assertEqual(first_tree(DUMBBELL), (1,))
        self.assertEqual(first_tree(PATH), (0, 1, 2))
        self.assertEqual(first_tree(STAR), (0, 1, 2, 3))
        self.assertEqual(first_tree(FOUR_ALL), (0, 1, 2))
        self.assertEqual(first_tree(THREE_BY_THREE), (0, 1, 2, 3, 6))

    def test_ties_between_places_that_hang_together_already(self):
        web = (4, ((0, 0), (2, 3), (3, 2), (1, 2), (3, 1), (1, 1), (0, 3), (0, 1)))
        self.assertEqual(first_tree(web), (1, 3, 6))
        self.assertEqual(first_tree((4, ((0, 1), (2, 3), (1, 2), (3, 0)))), (0, 1, 2))
        self.assertEqual(first_tree(RING_OF_24), tuple(range(23)))

    def test_several_parts_and_no_ties(self):
        self.assertEqual(first_tree(SEVERAL), (0, 1))
        self.assertEqual(first_tree(SCATTERED), ())
        self.assertEqual(first_tree(NO_TIES), ())
        self.assertEqual(first_tree((5, ((4, 2), (1, 0), (2, 4), (0, 1)))), (0, 1))

    def test_webs_of_very_many_orders(self):
        self.assertEqual(first_tree(LOOPS_24), ())
        self.assertEqual(first_tree(TIES_24), (0,))
        self.assertEqual(first_tree(LONG_PATH), tuple(range(24)))
        self.assertEqual(first_tree(ORDERS_1024), tuple(range(9)))
        self.assertEqual(first_tree((2, ((1, 1),) * 23 + ((0, 1),))), (23,))

    def test_every_web(self):
        for web in WEBS + (ORDERS_960, ORDERS_1024, RING_OF_24):
            before = copy.deepcopy(web)
            told = first_tree(web)
            self.assertIs(type(told), tuple)
            self.assertEqual({type(tie) for tie in told} - {int}, set())
            self.assertEqual(told, tree_by_hand(web))
            self.assertEqual(list(told), sorted(set(told)))
            self.assertEqual(len(told), web[0] - len(parts_of(web)))
            self.assertEqual(parts_of((web[0], tuple(web[1][tie] for tie in told))), parts_of(web))
            self.assertEqual(web, before)


class CrossedCounts(Refusing):
    def test_known_counts(self):
        self.assertEqual(crossed_counts(ONE_PLACE), ([1], []))
        self.assertEqual(crossed_counts(LOOP), ([1], [0, 1]))
        self.assertEqual(crossed_counts(TWO_LOOPS), ([4, 2], [0, 10, 8]))
        self.assertEqual(crossed_counts(THETA), ([2, 2], [0, 6, 6]))
        self.assertEqual(crossed_counts(FOUR_ALL), ([2, 14], [0, 14, 42, 56]))
        self.assertEqual(crossed_counts(DUMBBELL), ([4], [0, 8, 4]))

    def test_webs_without_rings(self):
        for web in (ONE_TIE, PATH, STAR, NO_TIES, LONG_PATH):
            self.assertEqual(crossed_counts(web), ([orders_many(web)], []))

    def test_against_all_gone_through(self):
        for web in COUNTED:
            told = crossed_counts(web)
            self.assertEqual(told, counted_by_hand(web))
            self.assertEqual([type(told)] + [type(row) for row in told], [tuple, list, list])
            self.assertEqual({type(number) for row in told for number in row}, {int})

    def test_as_many_as_orders_times_2_to_the_power_of_the_rank(self):
        for web in COUNTED:
            two, one = crossed_counts(web)
            self.assertEqual(sum(two) + sum(one), orders_many(web) * 2 ** rank_of(web))
            self.assertEqual(sum(two), orders_many(web))
            self.assertEqual(two, counts(web))

    def test_both_lists_end_with_the_greatest_that_comes(self):
        for web in COUNTED:
            for row in crossed_counts(web):
                self.assertNotEqual(row[-1:], [0])

    def test_just_960_in_all(self):
        self.assertEqual(orders_many(THREE_LOOPS) * 2 ** rank_of(THREE_LOOPS), 960)
        two, one = crossed_counts(THREE_LOOPS)
        self.assertEqual((two, sum(one)), ([40, 80], 840))
        great = (23, ((0, 0),) * 3 + tuple((k, k + 1) for k in range(1, 22)))
        self.assertEqual(crossed_counts(great), (two, one))

    def test_more_than_960_in_all(self):
        for web in (THREE_BY_THREE, ORDERS_960):
            self.assertLessEqual(orders_many(web), 960)
            self.assertGreater(orders_many(web) * 2 ** rank_of(web), 960)
            self.assert_refused(TooMany, crossed_counts, web)
        for web in (ORDERS_1024, LOOPS_24, TIES_24):
            self.assert_refused(TooMany, crossed_counts, web)

    def test_few_orders_with_very_many_crossings(self):
        web = (24, tuple((place, place) for place in range(24)))
        self.assertEqual((orders_many(web), rank_of(web)), (1, 24))
        self.assert_refused(TooMany, crossed_counts, web)
        self.assert_refused(TooMany, crossed_counts, (10, web[1][:10]))
        self.assertEqual(
            crossed_counts((9, web[1][:9])), ([1], [0, 9, 36, 84, 126, 126, 84, 36, 9, 1])
        )

    def test_orders_alone_more_than_960(self):
        web = (9, tuple((place, 8) for place in range(8)))
        self.assertEqual((orders_many(web), rank_of(web)), (5040, 0))
        self.assert_refused(TooMany, crossed_counts, web)

    def test_the_lists_are_the_askers_own(self):
        two, one = crossed_counts(THETA)
        two.clear()
        one.append(5)
        again = crossed_counts(THETA)
        self.assertEqual(again, ([2, 2], [0, 6, 6]))
        two.append(1)
        self.assertEqual(again, ([2, 2], [0, 6, 6]))

    def test_what_is_handed_in_stays_as_it_was(self):
        for web in COUNTED:
            before = copy.deepcopy(web)
            self.assertEqual(crossed_counts(web), crossed_counts(web))
            self.assertEqual(web, before)
