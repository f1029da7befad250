import copy
import math

from holefloor.counting import counts, fewest, most
from holefloor.errors import TooMany
from holefloor.holes import holes
from holefloor.numbers import number_of, orders_many
from tests.refusing import Refusing
from tests.samples import (
    FOUR_ALL, LONG_PATH, LOOP, LOOPS_24, NO_TIES, ONE_PLACE, ORDERS_960, ORDERS_1024, RING_OF_24, SMALL_WEBS, THETA,
    THREE_BY_THREE, THREE_LOOPS, TIES_24, TWO_LOOPS, holes_by_hand, orders_by_hand,
)

# 960 orders and as many ties and places as a web can have.
GREAT_960 = (22, ORDERS_960[1] + tuple((k, k + 1) for k in range(6, 21)))
COUNTED = SMALL_WEBS + (NO_TIES, LONG_PATH, RING_OF_24, ORDERS_960, GREAT_960)


def gone_through(web):
    return [(holes_by_hand(web, order), order) for order in orders_by_hand(web)]


class Counting(Refusing):
    def test_known_counts(self):
        self.assertEqual(counts(ONE_PLACE), [1])
        self.assertEqual(counts(LOOP), [1])
        self.assertEqual(counts(TWO_LOOPS), [4, 2])
        self.assertEqual(counts(THREE_LOOPS), [40, 80])
        self.assertEqual(counts(THETA), [2, 2])
        self.assertEqual(counts(FOUR_ALL), [2, 14])
        self.assertEqual(counts(THREE_BY_THREE), [0, 40, 24])
        self.assertEqual(counts(NO_TIES), [1])
        self.assertEqual(counts(LONG_PATH), [1])
        self.assertEqual(counts(RING_OF_24), [1])

    def test_against_all_orders_gone_through(self):
        for web in COUNTED:
            come = [many for many, order in gone_through(web)]
            told = counts(web)
            self.assertIs(type(told), list)
            self.assertEqual(told, [come.count(many) for many in range(max(come) + 1)])
            self.assertEqual(sum(told), orders_many(web))
            self.assertEqual({type(number) for number in told}, {int})

    def test_the_fewest_and_the_most_against_all_orders_gone_through(self):
        for web in COUNTED:
            come = gone_through(web)
            least = min(many for many, order in come)
            greatest = max(many for many, order in come)
            self.assertEqual(fewest(web), [told for told in come if told[0] == least][0])
            self.assertEqual(most(web), [told for told in come if told[0] == greatest][0])

    def test_the_told_orders_have_the_told_holes(self):
        for web in COUNTED:
            for told in (fewest(web), most(web)):
                self.assertEqual([type(told), type(told[0]), type(told[1]), len(told)], [tuple, int, tuple, 2])
                self.assertEqual(holes(web, told[1]), told[0])

    def test_the_order_of_the_least_number(self):
        self.assertEqual(fewest(TWO_LOOPS), (0, ((0, 1, 2, 3),)))
        self.assertEqual(most(TWO_LOOPS), (1, ((0, 2, 1, 3),)))
        self.assertEqual(fewest(THETA), (0, ((0, 3, 4), (1, 5, 2))))
        self.assertEqual(most(THETA), (1, ((0, 3, 4), (1, 2, 5))))
        for web in COUNTED:
            for many, order in (fewest(web), most(web)):
                ahead = orders_by_hand(web)[:number_of(web, order)]
                self.assertNotIn(many, [holes_by_hand(web, other) for other in ahead])

    def test_each_number_of_holes_between_both_comes(self):
        for web in COUNTED:
            told = counts(web)
            least, greatest = fewest(web)[0], most(web)[0]
            self.assertEqual(len(told), greatest + 1)
            self.assertEqual([many > 0 for many in told], [many >= least for many in range(greatest + 1)])

    def test_960_orders_and_more(self):
        self.assertEqual([orders_many(ORDERS_960), orders_many(GREAT_960), orders_many(ORDERS_1024)], [960, 960, 1024])
        for web in (ORDERS_960, GREAT_960):
            self.assertEqual(sum(counts(web)), 960)
            self.assertLess(fewest(web)[0], most(web)[0])
        for web in (ORDERS_1024, LOOPS_24, TIES_24, (1, ((0, 0),) * 4), (2, ((0, 1),) * 5 + ((1, 1),))):
            self.assertGreater(orders_many(web), 960)
            for call in (counts, fewest, most):
                self.assert_refused(TooMany, call, web)

    def test_720_orders_at_one_place(self):
        web = (8, tuple((place, 7) for place in range(7)))
        self.assertEqual(counts(web), [math.factorial(6)])
        self.assertEqual(fewest(web), most(web))

    def test_the_list_is_the_askers_own(self):
        told = counts(TWO_LOOPS)
        told[0] = 7
        again = counts(TWO_LOOPS)
        self.assertEqual(again, [4, 2])
        told.clear()
        self.assertEqual(again, [4, 2])

    def test_what_is_handed_in_stays_as_it_was(self):
        for web in SMALL_WEBS:
            before = copy.deepcopy(web)
            for call in (counts, fewest, most):
                self.assertEqual(call(web), call(web))
            self.assertEqual(web, before)
