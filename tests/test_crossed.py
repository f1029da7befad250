import unittest

from holefloor.crossed import back_of, crossed_faces, crossed_onward, lack
from holefloor.faces import faces
from holefloor.holes import holes
from holefloor.orders import follower, forerunner
from tests.samples import (
    LONG_PATH, LOOP, LOOPS_24, NO_TIES, ONE_PLACE, ONE_TIE, PATH, SCATTERED, TIES_24, TWO_LOOPS, crossed_floors,
    floors, some_orders,
)


def states_of(web):
    return [(end, hand) for end in range(2 * len(web[1])) for hand in (0, 1)]


def round_of(web, order, crossings, state):
    """The states through which one comes; none where one never comes back."""
    come = [state]
    while len(come) <= 4 * len(web[1]):
        state = crossed_onward(web, order, crossings, state)
        if state == come[0]:
            return come
        come.append(state)
    return []


def brims_many(web, order, crossings):
    """How many brims bands laid along the ties have, found without any state."""
    # Each end's band has a left and a right edge; edges are brought together one pair after the other.
    brim = {(end, edge): (end, edge) for end in range(2 * len(web[1])) for edge in ("left", "right")}

    def bring(one, other):
        old, new = brim[one], brim[other]
        for edge in brim:
            if brim[edge] == old:
                brim[edge] = new

    for row in order:
        for end, come in zip(row, row[1:] + row[:1]):
            bring((end, "right"), (come, "left"))
    for tie, crossing in enumerate(crossings):
        for edge, plain in (("left", "right"), ("right", "left")):
            bring((2 * tie, edge), (2 * tie + 1, edge if crossing else plain))
    return len(set(brim.values())) + order.count(())


class States(unittest.TestCase):
    def assert_state(self, web, state):
        self.assertIs(type(state), tuple)
        self.assertEqual([type(number) for number in state], [int, int])
        self.assertIn(state, states_of(web))

    def test_onward_over_a_plain_and_a_crossed_tie(self):
        order = ((0, 2, 1, 3),)
        onward = [crossed_onward(TWO_LOOPS, order, (0, 1), state) for state in states_of(TWO_LOOPS)]
        self.assertEqual(onward, [(3, 0), (2, 1), (2, 0), (3, 1), (1, 1), (0, 0), (0, 1), (1, 0)])

    def test_backs_over_a_plain_and_a_crossed_tie(self):
        backs = [back_of(TWO_LOOPS, (0, 1), state) for state in states_of(TWO_LOOPS)]
        self.assertEqual(backs, [(1, 1), (1, 0), (0, 1), (0, 0), (3, 0), (3, 1), (2, 0), (2, 1)])

    def test_onward_and_back_of_each_state(self):
        for web, order, crossings in crossed_floors():
            for end, hand in states_of(web):
                partner = end + 1 if end % 2 == 0 else end - 1
                beyond = (hand + crossings[end // 2]) % 2
                come = crossed_onward(web, order, crossings, (end, hand))
                back = back_of(web, crossings, (end, hand))
                self.assert_state(web, come)
                self.assert_state(web, back)
                self.assertEqual(back, (partner, 1 - beyond))
                if beyond == 0:
                    self.assertEqual(come, (follower(web, order, partner), 0))
                else:
                    self.assertEqual(come, (forerunner(web, order, partner), 1))

    def test_the_back_of_the_back_is_the_state(self):
        for web, order, crossings in crossed_floors():
            for state in states_of(web):
                self.assertEqual(back_of(web, crossings, back_of(web, crossings, state)), state)

    def test_backs_are_gone_the_other_way_about(self):
        for web, order, crossings in crossed_floors():
            for state in states_of(web):
                come = crossed_onward(web, order, crossings, state)
                back = back_of(web, crossings, come)
                self.assertEqual(crossed_onward(web, order, crossings, back), back_of(web, crossings, state))

    def test_each_state_comes_round_and_not_through_a_back(self):
        for web, order, crossings in crossed_floors(most=3):
            for state in states_of(web):
                come = round_of(web, order, crossings, state)
                self.assertIn(state, come)
                backs = {back_of(web, crossings, other) for other in come}
                self.assertEqual(backs & set(come), set())


class CrossedFaces(unittest.TestCase):
    def test_faces_of_small_floors(self):
        self.assertEqual(crossed_faces(LOOP, ((0, 1),), (0,)), [((0, 0),), ((1, 0),)])
        self.assertEqual(crossed_faces(LOOP, ((0, 1),), (1,)), [((0, 0), (0, 1))])
        self.assertEqual(crossed_faces(ONE_TIE, ((1,), (0,)), (0,)), [((0, 0), (1, 0))])
        self.assertEqual(crossed_faces(ONE_TIE, ((1,), (0,)), (1,)), [((0, 0), (1, 1))])
        order = ((0, 2, 1, 3),)
        self.assertEqual(crossed_faces(TWO_LOOPS, order, (0, 1)), [((0, 0), (3, 0), (0, 1), (2, 1))])
        self.assertEqual(crossed_faces(TWO_LOOPS, order, (1, 1)), [((0, 0), (2, 1)), ((2, 0), (1, 1))])

    def test_each_state_is_once_in_a_told_face_or_a_back(self):
        for web, order, crossings in crossed_floors():
            told = crossed_faces(web, order, crossings)
            come = [state for face in told for state in face]
            backs = [back_of(web, crossings, state) for state in come]
            self.assertEqual(sorted(come + backs), states_of(web))

    def test_each_face_is_gone_round_from_its_first_state(self):
        for web, order, crossings in crossed_floors():
            for face in crossed_faces(web, order, crossings):
                self.assertIs(type(face), tuple)
                if face:
                    self.assertEqual(list(face), round_of(web, order, crossings, face[0]))
                    self.assertEqual({type(state) for state in face}, {tuple})

    def test_each_face_begins_with_the_least_state_of_hand_0_of_both_rounds(self):
        for web, order, crossings in crossed_floors():
            for face in crossed_faces(web, order, crossings):
                both = list(face) + [back_of(web, crossings, state) for state in face]
                self.assertEqual(list(face[:1]), sorted(state for state in both if state[1] == 0)[:1])

    def test_a_face_for_each_place_without_ends(self):
        for web, order, crossings in crossed_floors():
            self.assertEqual(crossed_faces(web, order, crossings).count(()), order.count(()))
        self.assertEqual(crossed_faces(ONE_PLACE, ((),), ()), [()])
        self.assertEqual(crossed_faces(NO_TIES, ((),) * 25, ()), [()] * 25)
        self.assertEqual(
            crossed_faces(SCATTERED, ((), (2, 3), (), (0, 1)), (1, 0)),
            [(), (), ((0, 0), (0, 1)), ((2, 0),), ((3, 0),)],
        )

    def test_as_many_as_brims_of_bands(self):
        for web, order, crossings in crossed_floors():
            self.assertEqual(len(crossed_faces(web, order, crossings)), brims_many(web, order, crossings))

    def test_25_places_and_24_ties(self):
        order = some_orders(LONG_PATH)[0]
        self.assertEqual(
            crossed_faces(LONG_PATH, order, (1,) + (0,) * 23),
            [((0, 0),) + tuple((end, 1) for end in range(2, 48, 2)) + tuple((end, 1) for end in range(47, 0, -2))],
        )
        for crossings in ((0,) * 24, (1,) * 24, (0, 1) * 12):
            self.assertEqual([len(face) for face in crossed_faces(LONG_PATH, order, crossings)], [48])
            self.assertEqual(lack(LONG_PATH, order, crossings), 0)

    def test_24_ties_from_a_place_to_itself(self):
        order = (tuple(range(48)),)
        self.assertEqual(len(crossed_faces(LOOPS_24, order, (0,) * 24)), 25)
        for many in range(25):
            crossings = (1,) * many + (0,) * (24 - many)
            self.assertEqual(len(crossed_faces(LOOPS_24, order, crossings)), 25 - many)
            self.assertEqual(lack(LOOPS_24, order, crossings), many)
        self.assertEqual([len(face) for face in crossed_faces(LOOPS_24, order, (1,) * 24)], [48])

    def test_24_ties_between_two_places(self):
        order = (tuple(range(0, 48, 2)), (1,) + tuple(range(47, 1, -2)))
        self.assertEqual(len(crossed_faces(TIES_24, order, (0,) * 24)), 24)
        self.assertEqual(len(crossed_faces(TIES_24, order, (1,) + (0,) * 23)), 23)

    def test_the_list_is_sorted_and_new(self):
        for web, order, crossings in crossed_floors():
            told = crossed_faces(web, order, crossings)
            self.assertIs(type(told), list)
            self.assertEqual(told, sorted(told))
            kept = list(told)
            told.append(5)
            again = crossed_faces(web, order, crossings)
            self.assertEqual(again, kept)
            told.clear()
            self.assertEqual(again, kept)


class Lack(unittest.TestCase):
    def test_lacks_of_small_floors(self):
        self.assertEqual(lack(ONE_PLACE, ((),), ()), 0)
        self.assertEqual(lack(NO_TIES, ((),) * 25, ()), 0)
        self.assertEqual([lack(LOOP, ((0, 1),), (crossing,)) for crossing in (0, 1)], [0, 1])
        lacks = {crossings: lack(TWO_LOOPS, ((0, 2, 1, 3),), crossings) for crossings in ((0, 0), (0, 1), (1, 1))}
        self.assertEqual(lacks, {(0, 0): 2, (0, 1): 2, (1, 1): 1})
        lacks = {crossings: lack(TWO_LOOPS, ((0, 1, 2, 3),), crossings) for crossings in ((0, 0), (0, 1), (1, 1))}
        self.assertEqual(lacks, {(0, 0): 0, (0, 1): 1, (1, 1): 2})
        self.assertEqual(lack(SCATTERED, ((), (2, 3), (), (0, 1)), (1, 1)), 2)

    def test_a_whole_number_from_0_on_as_told(self):
        for web, order, crossings in crossed_floors():
            told = lack(web, order, crossings)
            self.assertIs(type(told), int)
            self.assertGreaterEqual(told, 0)

    def test_crossed_ties_of_a_web_without_rings_change_no_lack(self):
        for web, order, crossings in crossed_floors((PATH, ONE_TIE, LONG_PATH)):
            self.assertEqual(lack(web, order, crossings), 0)

    def test_where_no_tie_is_crossed(self):
        for web, order in floors():
            crossings = (0,) * len(web[1])
            plain = [tuple((end, 0) for end in face) for face in faces(web, order)]
            self.assertEqual(crossed_faces(web, order, crossings), plain)
            self.assertEqual(lack(web, order, crossings), 2 * holes(web, order))
