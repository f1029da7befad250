import math
import unittest

from holefloor.errors import NoNumber
from holefloor.numbers import number_of, order_at, orders_many
from holefloor.orders import order_of
from tests.refusing import LONG, STRANGE, Refusing
from tests.samples import (
    FOUR_ALL, LONG_PATH, LOOPS_24, NO_TIES, ONE_PLACE, SMALL_WEBS, THREE_LOOPS, TIES_24, WEBS, orders_by_hand,
)

# Places of three, four, two, none and one ends, so that a mistaken weight of a place is seen.
UNEVEN = (5, ((1, 0), (0, 1), (2, 1), (0, 2), (1, 4)))


class Numbers(Refusing):
    def test_how_many_orders(self):
        self.assertEqual(orders_many(ONE_PLACE), 1)
        self.assertEqual(orders_many(NO_TIES), 1)
        self.assertEqual(orders_many(LONG_PATH), 1)
        self.assertEqual(orders_many(THREE_LOOPS), 120)
        self.assertEqual(orders_many(FOUR_ALL), 16)
        self.assertEqual(orders_many(UNEVEN), 12)
        self.assertEqual(orders_many(LOOPS_24), math.factorial(47))
        self.assertEqual(orders_many(TIES_24), math.factorial(23) ** 2)

    def test_as_many_as_are_found_by_hand(self):
        for web in SMALL_WEBS + (UNEVEN,):
            self.assertEqual(orders_many(web), len(orders_by_hand(web)))
            self.assertIs(type(orders_many(web)), int)

    def test_all_numbers_of_small_webs(self):
        for web in SMALL_WEBS + (UNEVEN,):
            orders = orders_by_hand(web)
            self.assertEqual([order_at(web, number) for number in range(len(orders))], orders)
            self.assertEqual([number_of(web, order) for order in orders], list(range(len(orders))))

    def test_the_first_and_the_last_number(self):
        for web in WEBS + (UNEVEN,):
            last = orders_many(web) - 1
            first_order = order_at(web, 0)
            last_order = order_at(web, last)
            self.assertEqual(first_order, tuple(tuple(sorted(row)) for row in first_order))
            self.assertEqual(last_order, tuple(row[:1] + row[:0:-1] for row in first_order))
            self.assertEqual(number_of(web, first_order), 0)
            self.assertEqual(number_of(web, last_order), last)

    def test_48_ends_at_one_place(self):
        last = math.factorial(47) - 1
        self.assertEqual(order_at(LOOPS_24, 0), (tuple(range(48)),))
        self.assertEqual(order_at(LOOPS_24, 1), (tuple(range(46)) + (47, 46),))
        self.assertEqual(order_at(LOOPS_24, last), ((0,) + tuple(range(47, 0, -1)),))
        self.assertEqual(order_at(LOOPS_24, math.factorial(46))[0][:4], (0, 2, 1, 3))
        numbers = [last * k // 97 for k in range(98)]
        orders = [order_at(LOOPS_24, number) for number in numbers]
        self.assertEqual(orders, sorted(orders))
        self.assertEqual([number_of(LOOPS_24, order) for order in orders], numbers)
        for order in orders:
            self.assertEqual(order_of(LOOPS_24, order), order)

    def test_two_places_of_24_ends(self):
        own = math.factorial(23)
        for number in (0, 1, own - 1, own, own + 1, own * own // 2, own * own - own, own * own - 1):
            order = order_at(TIES_24, number)
            self.assertEqual(order_of(TIES_24, order), order)
            self.assertEqual(number_of(TIES_24, order), number)
        self.assertEqual(order_at(TIES_24, own)[0][-2:], (46, 44))
        self.assertEqual(order_at(TIES_24, own)[1], tuple(range(1, 48, 2)))

    def test_what_is_told_is_of_tuples_and_whole_numbers(self):
        for web in WEBS:
            order = order_at(web, orders_many(web) // 2)
            self.assertIs(type(order), tuple)
            self.assertEqual({type(row) for row in order}, {tuple})
            self.assertIs(type(number_of(web, order)), int)

    def test_beyond_the_bounds(self):
        for web in WEBS:
            many = orders_many(web)
            for number in (many, many + 1, 2 * many, -1, -many, -many - 1) + LONG:
                self.assert_refused(NoNumber, order_at, web, number)

    def test_what_is_no_whole_number(self):
        for web in (ONE_PLACE, THREE_LOOPS, LOOPS_24):
            for thing in STRANGE + ([], (), [0], (0,), {0: 0}, "0"):
                self.assert_refused(NoNumber, order_at, web, thing)
