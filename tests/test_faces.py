import unittest

from holefloor.faces import face_of, faces, onward
from holefloor.orders import follower
from tests.samples import (
    LONG_PATH, LOOP, LOOPS_24, NO_TIES, ONE_PLACE, ONE_TIE, SCATTERED, THETA, TIES_24, TWO_LOOPS, WEBS, some_orders,
)


class Faces(unittest.TestCase):
    def test_onward_is_the_follower_of_the_partner(self):
        order = ((0, 2, 1, 3),)
        self.assertEqual([onward(TWO_LOOPS, order, end) for end in range(4)], [3, 2, 0, 1])
        order = ((0, 3, 4), (1, 5, 2))
        self.assertEqual([onward(THETA, order, end) for end in range(6)], [5, 3, 4, 1, 2, 0])
        for web in WEBS:
            for order in some_orders(web)[:20]:
                for k in range(len(web[1])):
                    self.assertEqual(onward(web, order, 2 * k), follower(web, order, 2 * k + 1))
                    self.assertEqual(onward(web, order, 2 * k + 1), follower(web, order, 2 * k))

    def test_faces_of_webs_that_can_be_drawn(self):
        self.assertEqual(faces(LOOP, ((0, 1),)), [(0,), (1,)])
        self.assertEqual(faces(ONE_TIE, ((1,), (0,))), [(0, 1)])
        self.assertEqual(faces(TWO_LOOPS, ((0, 1, 2, 3),)), [(0, 2), (1,), (3,)])
        self.assertEqual(faces(TWO_LOOPS, ((0, 2, 1, 3),)), [(0, 3, 1, 2)])
        self.assertEqual(faces(THETA, ((0, 3, 4), (1, 5, 2))), [(0, 5), (1, 3), (2, 4)])
        self.assertEqual(faces(THETA, ((0, 3, 4), (1, 2, 5))), [(0, 2, 4, 1, 3, 5)])

    def test_a_face_is_gone_onward_and_not_back(self):
        web = (3, ((0, 1), (1, 2), (2, 0)))
        self.assertEqual(faces(web, ((0, 5), (1, 2), (3, 4))), [(0, 2, 4), (1, 5, 3)])

    def test_a_long_path_has_one_face(self):
        order = tuple(((0,),) + tuple((2 * k - 1, 2 * k) for k in range(1, 24)) + ((47,),))
        self.assertEqual(faces(LONG_PATH, order), [tuple(range(0, 48, 2)) + tuple(range(47, 0, -2))])

    def test_24_ties(self):
        self.assertEqual(
            faces(LOOPS_24, (tuple(range(48)),)),
            sorted([tuple(range(0, 48, 2))] + [(end,) for end in range(1, 48, 2)]),
        )
        turned = ((tuple(range(0, 48, 2))), (1,) + tuple(range(47, 1, -2)))
        self.assertEqual(len(faces(TIES_24, turned)), 24)
        self.assertEqual({len(face) for face in faces(TIES_24, turned)}, {2})

    def test_places_without_ends(self):
        self.assertEqual(faces(ONE_PLACE, ((),)), [()])
        self.assertEqual(faces(NO_TIES, ((),) * 25), [()] * 25)
        self.assertEqual(faces(SCATTERED, ((), (2, 3), (), (0, 1))), [(), (), (0,), (1,), (2,), (3,)])

    def test_each_end_is_in_just_one_face_once(self):
        for web in WEBS:
            for order in some_orders(web):
                told = faces(web, order)
                self.assertEqual(sorted(sum(told, ())), list(range(2 * len(web[1]))))
                self.assertEqual(told.count(()), order.count(()))

    def test_each_face_is_gone_round_from_its_least_end(self):
        for web in WEBS:
            for order in some_orders(web):
                for face in faces(web, order):
                    self.assertIs(type(face), tuple)
                    if face:
                        self.assertEqual(face[0], min(face))
                        come = [onward(web, order, end) for end in face]
                        self.assertEqual(tuple(come), face[1:] + face[:1])

    def test_the_face_of_each_of_its_ends(self):
        for web in WEBS:
            for order in some_orders(web)[:50]:
                told = faces(web, order)
                for face in told:
                    for end in face:
                        self.assertEqual(face_of(web, order, end), face)
                        self.assertIs(type(face_of(web, order, end)), tuple)

    def test_the_list_is_sorted(self):
        for web in WEBS:
            for order in some_orders(web):
                told = faces(web, order)
                self.assertIs(type(told), list)
                self.assertEqual(told, sorted(told))

    def test_the_list_is_the_askers_own(self):
        order = ((), (2, 3), (), (0, 1))
        told = faces(SCATTERED, order)
        told.clear()
        again = faces(SCATTERED, order)
        self.assertEqual(again, [(), (), (0,), (1,), (2,), (3,)])
        told.append((5,))
        self.assertEqual(again, [(), (), (0,), (1,), (2,), (3,)])
