import collections
import unittest

from holefloor.holes import holes, holes_by_parts
from holefloor.orders import mirrored
from holefloor.webs import parts_of
from tests.samples import (
    DUMBBELL, FOUR_ALL, LONG_PATH, LOOP, LOOPS_24, NO_TIES, ONE_PLACE, PATH, SCATTERED, SEVERAL, STAR, THETA,
    THREE_BY_THREE, THREE_LOOPS, TIES_24, TWO_LOOPS, WEBS, orders_by_hand, some_orders,
)


def counted(web):
    return dict(collections.Counter(holes(web, order) for order in orders_by_hand(web)))


class Holes(unittest.TestCase):
    def test_orders_counted_by_holes(self):
        self.assertEqual(counted(ONE_PLACE), {0: 1})
        self.assertEqual(counted(LOOP), {0: 1})
        self.assertEqual(counted(TWO_LOOPS), {0: 4, 1: 2})
        self.assertEqual(counted(THREE_LOOPS), {0: 40, 1: 80})
        self.assertEqual(counted(THETA), {0: 2, 1: 2})
        self.assertEqual(counted(FOUR_ALL), {0: 2, 1: 14})
        self.assertEqual(counted(THREE_BY_THREE), {1: 40, 2: 24})

    def test_webs_of_which_no_order_has_holes(self):
        for web in (PATH, STAR, DUMBBELL):
            self.assertEqual(set(counted(web)), {0})

    def test_24_ties(self):
        self.assertEqual(holes(LOOPS_24, (tuple(range(48)),)), 0)
        crossed = tuple(4 * k + end for k in range(12) for end in (0, 2, 1, 3))
        self.assertEqual(holes(LOOPS_24, (crossed,)), 12)
        self.assertEqual(holes_by_parts(LOOPS_24, (crossed,)), [12])
        self.assertEqual(holes(TIES_24, (tuple(range(0, 48, 2)), tuple(range(1, 48, 2)))), 11)
        self.assertEqual(holes(TIES_24, (tuple(range(0, 48, 2)), (1,) + tuple(range(47, 1, -2)))), 0)
        self.assertEqual(holes(LONG_PATH, some_orders(LONG_PATH)[0]), 0)

    def test_24_ties_in_two_parts(self):
        web = (3, ((0, 0),) * 12 + ((2, 2),) * 12)
        crossed = tuple(4 * k + end for k in range(6) for end in (0, 2, 1, 3))
        plain = tuple(range(24, 48))
        self.assertEqual(holes_by_parts(web, (crossed, (), plain)), [6, 0, 0])
        self.assertEqual(holes(web, (crossed, (), plain)), 6)
        behind = tuple(24 + end for end in crossed)
        self.assertEqual(holes_by_parts(web, (tuple(range(24)), (), behind)), [0, 0, 6])
        self.assertEqual(holes_by_parts(web, (crossed, (), behind)), [6, 0, 6])
        self.assertEqual(holes(web, (crossed, (), behind)), 12)

    def test_no_ties(self):
        self.assertEqual(holes(ONE_PLACE, ((),)), 0)
        self.assertEqual(holes_by_parts(ONE_PLACE, ((),)), [0])
        self.assertEqual(holes(NO_TIES, ((),) * 25), 0)
        self.assertEqual(holes_by_parts(NO_TIES, ((),) * 25), [0] * 25)

    def test_several_parts(self):
        web = (5, ((1, 3), (3, 1), (1, 3), (4, 4), (4, 4)))
        self.assertEqual(parts_of(web), [[0], [1, 3], [2], [4]])
        order = ((), (0, 3, 4), (), (1, 2, 5), (6, 7, 8, 9))
        self.assertEqual(holes_by_parts(web, order), [0, 1, 0, 0])
        order = ((), (0, 3, 4), (), (1, 5, 2), (6, 8, 7, 9))
        self.assertEqual(holes_by_parts(web, order), [0, 0, 0, 1])
        order = ((), (0, 3, 4), (), (1, 2, 5), (6, 8, 7, 9))
        self.assertEqual(holes_by_parts(web, order), [0, 1, 0, 1])
        self.assertEqual(holes(web, order), 2)
        self.assertEqual(holes_by_parts(SCATTERED, ((), (2, 3), (), (0, 1))), [0, 0, 0, 0])

    def test_each_part_by_itself_has_its_holes(self):
        # Places 0, 3 and 5 stay by themselves; the others are two webs, renumbered by hand.
        for order in orders_by_hand(SEVERAL):
            theta = tuple(tuple({0: 0, 1: 1, 4: 2, 5: 3, 8: 4, 9: 5}[end] for end in order[p]) for p in (1, 4))
            double = tuple(tuple({2: 0, 3: 1, 6: 2, 7: 3, 10: 4, 11: 5}[end] for end in order[p]) for p in (2, 6))
            told = holes_by_parts(SEVERAL, order)
            self.assertEqual(parts_of(SEVERAL), [[0], [1, 4], [2, 6], [3], [5]])
            self.assertEqual(told[1], holes((2, ((0, 1), (1, 0), (0, 1))), theta))
            self.assertEqual(told[2], holes((2, ((1, 0), (0, 0), (1, 1))), double))
            self.assertEqual([told[0], told[3], told[4]], [0, 0, 0])

    def test_whole_numbers_from_0_on_that_come_to_the_whole(self):
        for web in WEBS:
            for order in some_orders(web):
                whole = holes(web, order)
                told = holes_by_parts(web, order)
                self.assertIs(type(whole), int)
                self.assertGreaterEqual(whole, 0)
                self.assertIs(type(told), list)
                self.assertEqual(len(told), len(parts_of(web)))
                self.assertEqual([part for part in told if type(part) is not int or part < 0], [])
                self.assertEqual(sum(told), whole)

    def test_a_mirrored_order_has_the_same_holes(self):
        for web in WEBS:
            for order in some_orders(web):
                turned = mirrored(order)
                self.assertEqual(holes(web, turned), holes(web, order))
                self.assertEqual(holes_by_parts(web, turned), holes_by_parts(web, order))

    def test_the_list_is_the_askers_own(self):
        order = ((), (2, 3), (), (0, 1))
        told = holes_by_parts(SCATTERED, order)
        told[0] = 9
        again = holes_by_parts(SCATTERED, order)
        self.assertEqual(again, [0, 0, 0, 0])
        told.clear()
        self.assertEqual(again, [0, 0, 0, 0])
