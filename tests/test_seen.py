import copy

from holefloor.errors import TooGreat
from holefloor.faces import faces
from holefloor.holes import holes, holes_by_parts
from holefloor.orders import order_of
from holefloor.seen import seen
from holefloor.webs import web_of
from tests.refusing import Refusing
from tests.samples import (
    LONG_PATH, LOOP, LOOPS_24, NO_TIES, ONE_PLACE, ONE_TIE, SCATTERED, SMALL_WEBS, THETA, TIES_24, TWO_LOOPS, WEBS,
    by_least_ends, floors, orders_by_hand, some_orders,
)


def floors_of_few_faces():
    for web in SMALL_WEBS:
        for order in orders_by_hand(web):
            yield web, order
    for web, order in floors((NO_TIES, LONG_PATH, LOOPS_24, TIES_24)):
        if len(faces(web, order)) <= 25:
            yield web, order


class Seen(Refusing):
    def test_small_floors(self):
        self.assertEqual(seen(ONE_PLACE, ((),)), (ONE_PLACE, ((),)))
        self.assertEqual(seen(LOOP, ((0, 1),)), ((2, ((0, 1),)), ((0,), (1,))))
        self.assertEqual(seen(ONE_TIE, ((1,), (0,))), (LOOP, ((0, 1),)))
        self.assertEqual(seen(TWO_LOOPS, ((0, 1, 2, 3),)), ((3, ((0, 1), (0, 2))), ((0, 2), (1,), (3,))))
        self.assertEqual(seen(TWO_LOOPS, ((0, 2, 1, 3),)), (TWO_LOOPS, ((0, 3, 1, 2),)))
        self.assertEqual(
            seen(THETA, ((0, 3, 4), (1, 5, 2))), ((3, ((0, 1), (2, 1), (2, 0))), ((0, 5), (1, 3), (2, 4)))
        )

    def test_places_without_ends(self):
        self.assertEqual(
            seen(SCATTERED, ((), (2, 3), (), (0, 1))),
            ((6, ((2, 3), (4, 5))), ((), (), (0,), (1,), (2,), (3,))),
        )
        self.assertEqual(seen(NO_TIES, ((),) * 25), (NO_TIES, ((),) * 25))

    def test_the_told_is_a_floor_whose_places_are_the_faces(self):
        for web, order in floors_of_few_faces():
            told_web, told_order = seen(web, order)
            self.assertEqual(web_of(told_web[0], told_web[1]), told_web)
            self.assertEqual(order_of(told_web, told_order), told_order)
            self.assertEqual([type(told_web), type(told_web[1]), type(told_order)], [tuple] * 3)
            self.assertEqual({type(tie) for tie in told_web[1]} | {type(row) for row in told_order}, {tuple})
            told = faces(web, order)
            self.assertEqual(list(told_order), told)
            for tie, (a, b) in enumerate(told_web[1]):
                self.assertIn(2 * tie, told[a])
                self.assertIn(2 * tie + 1, told[b])

    def test_as_many_holes(self):
        for web, order in floors_of_few_faces():
            told = seen(web, order)
            self.assertEqual(holes(told[0], told[1]), holes(web, order))
            self.assertEqual(sorted(holes_by_parts(told[0], told[1])), sorted(holes_by_parts(web, order)))

    def test_its_faces_are_the_tuples_of_the_order(self):
        for web, order in floors_of_few_faces():
            told = seen(web, order)
            self.assertEqual(faces(told[0], told[1]), sorted(order))

    def test_seen_twice(self):
        for web, order in floors_of_few_faces():
            told = seen(web, order)
            self.assertEqual(seen(told[0], told[1]), by_least_ends(web, order))

    def test_seen_twice_where_places_stand_otherwise(self):
        web = (4, ((3, 1), (1, 3), (0, 0)))
        order = ((4, 5), (1, 2), (), (0, 3))
        told = seen(web, order)
        self.assertEqual(
            seen(told[0], told[1]), ((4, ((1, 2), (2, 1), (3, 3))), ((), (0, 3), (1, 2), (4, 5)))
        )

    def test_25_faces_and_more(self):
        flat = (tuple(range(48)),)
        self.assertEqual(len(faces(LOOPS_24, flat)), 25)
        self.assertEqual(seen(LOOPS_24, flat)[0][0], 25)
        web = (2, ((0, 0),) * 24)
        self.assert_refused(TooGreat, seen, web, flat + ((),))
        web = (2, ((0, 0),) * 23 + ((1, 1),))
        self.assert_refused(TooGreat, seen, web, (tuple(range(46)), (46, 47)))
        web = (24, tuple((place, place) for place in range(24)))
        self.assert_refused(TooGreat, seen, web, tuple((2 * place, 2 * place + 1) for place in range(24)))
        web = (13, web[1][:13])
        self.assert_refused(TooGreat, seen, web, tuple((2 * place, 2 * place + 1) for place in range(13)))
        web = (13, web[1][:12])
        order = tuple((2 * place, 2 * place + 1) for place in range(12)) + ((),)
        self.assertEqual(seen(web, order)[0][0], 25)

    def test_what_is_handed_in_stays_as_it_was(self):
        for web in WEBS:
            order = some_orders(web)[0]
            before = copy.deepcopy((web, order))
            seen(web, order)
            self.assertEqual((web, order), before)
