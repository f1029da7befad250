import copy
import itertools
import unittest

from holefloor.changes import drawn_in, put_in, taken_out
from holefloor.errors import NoEnd, NoTie, TooGreat
from holefloor.faces import faces
from holefloor.holes import holes
from holefloor.orders import follower, order_of
from holefloor.webs import parts_of, place_of, web_of
from tests.refusing import LONG, STRANGE, Refusing
from tests.samples import (
    DUMBBELL, LONG_PATH, LOOP, LOOPS_24, NO_TIES, ONE_PLACE, ONE_TIE, PATH, SCATTERED, STAR, THETA, TIES_24,
    TWO_LOOPS, WEBS, floors, some_orders,
)

# A part of two places, a place with a tie to itself, two places without ends.
WEB = (5, ((0, 2), (2, 0), (3, 3)))
ORDER = ((0, 3), (), (1, 2), (4, 5), ())


def corners_of(web, order):
    return list(range(2 * len(web[1]))) + [("place", place) for place, row in enumerate(order) if not row]


def ways_to_put_in():
    """Floors with fewer than 24 ties, each with all pairs of corners."""
    for web, order in floors(most=4):
        if len(web[1]) < 24:
            for one, other in itertools.product(corners_of(web, order), repeat=2):
                yield web, order, one, other


def corner_place(web, corner):
    return corner[1] if isinstance(corner, tuple) else place_of(web, corner)


def corner_face(web, order, corner):
    """The face at the corner; of a place without ends its own, told apart from another one's."""
    if isinstance(corner, tuple):
        return corner
    return [face for face in faces(web, order) if follower(web, order, corner) in face][0]


def hang_together(web, a, b):
    return any(a in part and b in part for part in parts_of(web))


class Changing(Refusing):
    def assert_floor(self, told):
        self.assertEqual([type(told), len(told)], [tuple, 2])
        web, order = told
        self.assertEqual(web_of(web[0], web[1]), web)
        self.assertEqual([type(web), type(web[1])] + [type(tie) for tie in web[1]], [tuple] * (2 + len(web[1])))
        self.assertEqual(order_of(web, order), order)
        self.assertEqual([type(order)] + [type(row) for row in order], [tuple] * (1 + len(order)))

    def assert_refuses_what_is_no_tie(self, call):
        for web, order in floors(WEBS, most=1):
            many = len(web[1])
            for thing in STRANGE + (-1, many, many + 1, -many - 1, [0], (0,), ("place", 0), [], ()) + LONG:
                self.assert_refused(NoTie, call, web, order, thing)


class PuttingIn(Changing):
    def test_from_end_to_end(self):
        self.assertEqual(
            put_in(WEB, ORDER, 0, 1),
            ((5, ((0, 2), (2, 0), (3, 3), (0, 2))), ((0, 6, 3), (), (1, 7, 2), (4, 5), ())),
        )
        self.assertEqual(
            put_in(WEB, ORDER, 2, 3),
            ((5, ((0, 2), (2, 0), (3, 3), (2, 0))), ((0, 3, 7), (), (1, 2, 6), (4, 5), ())),
        )
        self.assertEqual(
            put_in(WEB, ORDER, 0, 3),
            ((5, ((0, 2), (2, 0), (3, 3), (0, 0))), ((0, 6, 3, 7), (), (1, 2), (4, 5), ())),
        )

    def test_to_a_part_of_its_own(self):
        self.assertEqual(
            put_in(WEB, ORDER, 5, 0),
            ((5, ((0, 2), (2, 0), (3, 3), (3, 0))), ((0, 7, 3), (), (1, 2), (4, 5, 6), ())),
        )

    def test_the_same_corner_twice(self):
        self.assertEqual(
            put_in(WEB, ORDER, 0, 0),
            ((5, ((0, 2), (2, 0), (3, 3), (0, 0))), ((0, 7, 6, 3), (), (1, 2), (4, 5), ())),
        )
        self.assertEqual(
            put_in(WEB, ORDER, 5, 5),
            ((5, ((0, 2), (2, 0), (3, 3), (3, 3))), ((0, 3), (), (1, 2), (4, 5, 7, 6), ())),
        )

    def test_places_without_ends(self):
        self.assertEqual(
            put_in(WEB, ORDER, ("place", 4), ("place", 4)),
            ((5, ((0, 2), (2, 0), (3, 3), (4, 4))), ((0, 3), (), (1, 2), (4, 5), (6, 7))),
        )
        self.assertEqual(
            put_in(WEB, ORDER, ("place", 4), ("place", 1)),
            ((5, ((0, 2), (2, 0), (3, 3), (4, 1))), ((0, 3), (7,), (1, 2), (4, 5), (6,))),
        )
        self.assertEqual(
            put_in(WEB, ORDER, ("place", 1), 4),
            ((5, ((0, 2), (2, 0), (3, 3), (1, 3))), ((0, 3), (6,), (1, 2), (4, 7, 5), ())),
        )
        self.assertEqual(
            put_in(WEB, ORDER, 4, ("place", 1)),
            ((5, ((0, 2), (2, 0), (3, 3), (3, 1))), ((0, 3), (7,), (1, 2), (4, 6, 5), ())),
        )
        self.assertEqual(put_in(ONE_PLACE, ((),), ("place", 0), ("place", 0)), (LOOP, ((0, 1),)))

    def test_faces_and_holes(self):
        for web, order, one, other in ways_to_put_in():
            self.assert_put_in(web, order, one, other)

    def test_faces_and_holes_of_the_last_tie(self):
        for web, order in floors((LONG_PATH, LOOPS_24, TIES_24), most=2):
            less = taken_out(web, order, 23)
            corners = corners_of(less[0], less[1])
            for one in corners[::5]:
                for other in corners[::7]:
                    self.assert_put_in(less[0], less[1], one, other)

    def assert_put_in(self, web, order, one, other):
        told = put_in(web, order, one, other)
        self.assert_floor(told)
        a, b = corner_place(web, one), corner_place(web, other)
        self.assertEqual(told[0], (web[0], web[1] + ((a, b),)))
        more_faces = len(faces(told[0], told[1])) - len(faces(web, order))
        more_holes = holes(told[0], told[1]) - holes(web, order)
        if corner_face(web, order, one) == corner_face(web, order, other):
            self.assertEqual((more_faces, more_holes), (1, 0))
        elif hang_together(web, a, b):
            self.assertEqual((more_faces, more_holes), (-1, 1))
        else:
            self.assertEqual((more_faces, more_holes), (-1, 0))

    def test_put_in_last_and_taken_out_again(self):
        for web, order, one, other in ways_to_put_in():
            told = put_in(web, order, one, other)
            self.assertEqual(taken_out(told[0], told[1], len(web[1])), (web, order))

    def test_a_web_grown_from_places_alone(self):
        told = (NO_TIES, ((),) * 25)
        for k in range(24):
            told = put_in(told[0], told[1], 2 * k - 1 if k else ("place", 0), ("place", k + 1))
        self.assertEqual(told[0], LONG_PATH)
        self.assertEqual(holes(told[0], told[1]), 0)

    def no_corners(self):
        ends = (-1, -2, 6, 7, 48) + LONG
        lists = (["place", 1], ["place", 4], [0], (0,), [], (), ("place",), ("place", 1, 1), ("place", 1, None))
        places = [("place", place) for place in (0, 2, 3, 5, -1, -4, 25, True, False, None, "1", (1,), [1], {}) + LONG]
        words = [(word, 1) for word in ("Place", "end", "", "places", 0, None, True, ("place",), ["place"], {})]
        return STRANGE + ends + lists + tuple(places) + tuple(words) + ("place", "place 1", (1, "place"), {"place": 1})

    def test_what_is_no_corner(self):
        for thing in self.no_corners():
            for corner in (0, ("place", 1)):
                self.assert_refused(NoEnd, put_in, WEB, ORDER, thing, corner)
                self.assert_refused(NoEnd, put_in, WEB, ORDER, corner, thing)
            self.assert_refused(NoEnd, put_in, WEB, ORDER, thing, thing)

    def test_a_web_without_ties_has_no_ends(self):
        for thing in (0, 1, -1):
            self.assert_refused(NoEnd, put_in, ONE_PLACE, ((),), thing, ("place", 0))
            self.assert_refused(NoEnd, put_in, ONE_PLACE, ((),), ("place", 0), thing)

    def test_a_twenty_fifth_tie(self):
        for web, order in floors((LONG_PATH, LOOPS_24, TIES_24), most=2):
            for one, other in ((0, 0), (0, 47), (47, 20)):
                self.assert_refused(TooGreat, put_in, web, order, one, other)
            for thing in (-1, 48, True, None, [0], ("place", 0)):
                self.assert_refused(NoEnd, put_in, web, order, thing, 0)
                self.assert_refused(NoEnd, put_in, web, order, 0, thing)
        web = (2, ((0, 0),) * 24)
        order = (tuple(range(48)), ())
        self.assert_refused(TooGreat, put_in, web, order, ("place", 1), ("place", 1))
        self.assert_refused(TooGreat, put_in, web, order, ("place", 1), 0)
        self.assert_refused(NoEnd, put_in, web, order, ("place", 1), ("place", 0))

    def test_a_twenty_fourth_tie(self):
        told = put_in((1, ((0, 0),) * 23), (tuple(range(46)),), 45, 45)
        self.assertEqual(told, (LOOPS_24, (tuple(range(46)) + (47, 46),)))

    def test_what_is_handed_in_stays_as_it_was(self):
        things = (WEB, ORDER, ("place", 1), 0)
        before = copy.deepcopy(things)
        put_in(things[0], things[1], things[2], things[3])
        self.assertEqual(things, before)


class TakingOut(Changing):
    def test_the_first_one_one_between_and_the_last_one(self):
        web = (4, ((0, 1), (2, 1), (1, 1), (1, 3)))
        order = ((0,), (1, 4, 6, 3, 5), (2,), (7,))
        self.assertEqual(taken_out(web, order, 0), ((4, ((2, 1), (1, 1), (1, 3))), ((), (1, 3, 2, 4), (0,), (5,))))
        self.assertEqual(taken_out(web, order, 1), ((4, ((0, 1), (1, 1), (1, 3))), ((0,), (1, 2, 4, 3), (), (5,))))
        self.assertEqual(taken_out(web, order, 2), ((4, ((0, 1), (2, 1), (1, 3))), ((0,), (1, 4, 3), (2,), (5,))))
        self.assertEqual(taken_out(web, order, 3), ((4, ((0, 1), (2, 1), (1, 1))), ((0,), (1, 4, 3, 5), (2,), ())))

    def test_the_least_end_at_a_place_goes(self):
        order = ((0, 5, 2, 4, 3, 1),)
        self.assertEqual(taken_out((1, ((0, 0),) * 3), order, 0), (TWO_LOOPS, ((0, 2, 1, 3),)))

    def test_the_only_tie(self):
        self.assertEqual(taken_out(LOOP, ((0, 1),), 0), (ONE_PLACE, ((),)))
        self.assertEqual(taken_out(ONE_TIE, ((1,), (0,)), 0), ((2, ()), ((), ())))

    def test_faces_and_holes_of_each_tie(self):
        for web, order in floors():
            before = faces(web, order)
            for tie, (a, b) in enumerate(web[1]):
                told = taken_out(web, order, tie)
                self.assert_floor(told)
                self.assertEqual(told[0], (web[0], web[1][:tie] + web[1][tie + 1:]))
                self.assert_same_turn(order, told[1], tie)
                more_faces = len(faces(told[0], told[1])) - len(before)
                more_holes = holes(told[0], told[1]) - holes(web, order)
                if not any(2 * tie in face and 2 * tie + 1 in face for face in before):
                    self.assertEqual((more_faces, more_holes), (-1, 0))
                elif hang_together(told[0], a, b):
                    self.assertEqual((more_faces, more_holes), (1, -1))
                else:
                    self.assertEqual((more_faces, more_holes), (1, 0))

    def assert_same_turn(self, order, told, tie):
        """Each place's other ends stand round it as they stood, under their new numbers."""
        for row, left in zip(order, told):
            named = [end - 2 * (end > 2 * tie) for end in row if end not in (2 * tie, 2 * tie + 1)]
            self.assertIn(left, [tuple(named[at:] + named[:at]) for at in range(max(1, len(named)))])

    def test_whatever_is_no_tie(self):
        self.assert_refuses_what_is_no_tie(taken_out)


class DrawingIn(Changing):
    def test_the_first_one_one_between_and_the_last_one(self):
        web = (4, ((0, 1), (2, 1), (1, 1), (1, 3)))
        order = ((0,), (1, 4, 6, 3, 5), (2,), (7,))
        self.assertEqual(drawn_in(web, order, 0), ((3, ((1, 0), (0, 0), (0, 2))), ((1, 3, 2, 4), (0,), (5,))))
        self.assertEqual(drawn_in(web, order, 1), ((3, ((0, 1), (1, 1), (1, 2))), ((0,), (1, 2, 4, 3), (5,))))
        self.assertEqual(drawn_in(web, order, 3), ((3, ((0, 1), (2, 1), (1, 1))), ((0,), (1, 4, 3, 5), (2,))))
        self.assert_refused(NoTie, drawn_in, web, order, 2)

    def test_the_lesser_places_ends_stand_first_whichever_way_the_tie_leads(self):
        rows = ((0, 2, 4, 6), (1, 8, 10))
        web = (8, ((0, 1), (0, 2), (0, 3), (0, 4), (1, 5), (1, 6)))
        order = rows + ((3,), (5,), (7,), (9,), (11,), ())
        lone = ((1,), (3,), (5,), (7,), (9,), ())
        ties = ((0, 1), (0, 2), (0, 3), (0, 4), (0, 5))
        self.assertEqual(drawn_in(web, order, 0), ((7, ties), ((0, 2, 4, 6, 8),) + lone))
        turned = (8, ((1, 0),) + web[1][1:])
        order = ((1, 2, 4, 6), (0, 8, 10)) + order[2:]
        self.assertEqual(drawn_in(turned, order, 0), ((7, ties), ((0, 2, 4, 6, 8),) + lone))

    def test_from_the_follower_round_to_the_forerunner(self):
        web = (2, ((0, 0), (0, 1), (0, 0), (1, 1), (1, 1)))
        order = ((0, 5, 2, 1, 4), (3, 8, 6, 9, 7))
        self.assertEqual(drawn_in(web, order, 1), ((1, ((0, 0),) * 4), ((0, 3, 6, 4, 7, 5, 1, 2),)))

    def test_ties_beside_the_drawn_one_come_to_lead_from_a_place_to_itself(self):
        self.assertEqual(drawn_in(THETA, ((0, 3, 4), (1, 2, 5)), 1), (TWO_LOOPS, ((0, 3, 1, 2),)))
        self.assertEqual(drawn_in(THETA, ((0, 3, 4), (1, 5, 2)), 1), (TWO_LOOPS, ((0, 1, 3, 2),)))

    def test_the_only_tie(self):
        self.assertEqual(drawn_in(ONE_TIE, ((1,), (0,)), 0), (ONE_PLACE, ((),)))

    def test_places_beyond_and_between(self):
        web = (6, ((4, 1), (0, 3), (5, 2)))
        order = ((2,), (1,), (5,), (3,), (0,), (4,))
        self.assertEqual(drawn_in(web, order, 0), ((5, ((0, 3), (4, 2))), ((0,), (), (3,), (1,), (2,))))
        self.assertEqual(drawn_in(web, order, 1), ((5, ((3, 1), (4, 2))), ((), (1,), (3,), (0,), (2,))))
        self.assertEqual(drawn_in(web, order, 2), ((5, ((4, 1), (0, 3))), ((2,), (1,), (), (3,), (0,))))

    def test_faces_and_holes_of_each_tie(self):
        for web, order in floors():
            for tie, (a, b) in enumerate(web[1]):
                if a == b:
                    self.assert_refused(NoTie, drawn_in, web, order, tie)
                else:
                    self.assert_drawn_in(web, order, tie)

    def assert_drawn_in(self, web, order, tie):
        told = drawn_in(web, order, tie)
        self.assert_floor(told)
        low, high = sorted(web[1][tie])
        numbers = [place - (place > high) for place in range(web[0])]
        numbers[high] = low
        left = web[1][:tie] + web[1][tie + 1:]
        self.assertEqual(told[0], (web[0] - 1, tuple((numbers[a], numbers[b]) for a, b in left)))
        self.assertEqual(holes(told[0], told[1]), holes(web, order))
        self.assertEqual(faces(told[0], told[1]), sorted(self.faces_without(web, order, tie)))

    def faces_without(self, web, order, tie):
        for face in faces(web, order):
            named = [end - 2 * (end > 2 * tie) for end in face if end // 2 != tie]
            at = named.index(min(named)) if named else 0
            yield tuple(named[at:] + named[:at])

    def test_a_web_drawn_in_to_one_place(self):
        for web, order in floors((PATH, STAR, LONG_PATH), most=2):
            while web[1]:
                web, order = drawn_in(web, order, len(web[1]) // 2)
            self.assertEqual((web, order), (ONE_PLACE, ((),)))

    def test_whatever_is_no_tie(self):
        self.assert_refuses_what_is_no_tie(drawn_in)

    def test_ties_from_a_place_to_itself(self):
        for web in (LOOP, TWO_LOOPS, SCATTERED, LOOPS_24):
            for tie in range(len(web[1])):
                self.assert_refused(NoTie, drawn_in, web, some_orders(web)[0], tie)
        self.assert_refused(NoTie, drawn_in, DUMBBELL, some_orders(DUMBBELL)[0], 2)


class HandedIn(unittest.TestCase):
    def test_nothing_is_changed(self):
        for web, order in floors(most=3):
            before = copy.deepcopy((web, order))
            for tie, (a, b) in enumerate(web[1]):
                taken_out(web, order, tie)
                if a != b:
                    drawn_in(web, order, tie)
            self.assertEqual((web, order), before)
