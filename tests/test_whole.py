"""The promise of point 3, sentence by sentence, over the whole program."""

import copy
import itertools
import unittest

from holefloor.alike import alike, code, turnings
from holefloor.changes import drawn_in, put_in, taken_out
from holefloor.counting import counts, fewest, most
from holefloor.crossed import lack
from holefloor.crossedcounts import crossed_counts
from holefloor.desk import Desk
from holefloor.faces import face_of, faces
from holefloor.holes import holes, holes_by_parts
from holefloor.joins import joined_at, joined_by, orders_joined
from holefloor.numbers import number_of, order_at, orders_many
from holefloor.orders import follower, mirrored
from holefloor.papers import most_papers
from holefloor.rings import ring_bars, ring_paper
from holefloor.seen import seen
from holefloor.sets import set_bars
from holefloor.sides import shows_sides, sides, turned_over
from holefloor.tables import order_by, read_table
from holefloor.texts import read, written
from holefloor.trees import laid, tree_shows
from holefloor.webs import ends_at, parts_of, place_of, rank_of
from tests.samples import (
    DUMBBELL, LOOP, ONE_PLACE, ONE_TIE, SMALL_WEBS, THETA, TRIANGLE, TWO_LOOPS, WEBS, by_least_ends, crossed_floors,
    floors, holes_by_hand, multiplied, orders_by_hand, renamed, shuffled, varied_webs,
)

VARIED = tuple(varied_webs(30, 7, 9, 11))
LITTLE = (ONE_PLACE, LOOP, ONE_TIE, TWO_LOOPS, THETA, DUMBBELL, TRIANGLE, (2, ((0, 1), (1, 1))), (1, ((0, 0),) * 3))


def those_floors(most_of_each=4):
    return list(floors(WEBS + VARIED, most_of_each))


class Promise(unittest.TestCase):
    def test_the_faces_have_each_end_just_once(self):
        for web, order in those_floors():
            self.assertEqual(sorted(end for face in faces(web, order) for end in face), list(range(2 * len(web[1]))))

    def test_the_holes_are_a_whole_number_not_below_0_and_come_to_those_of_the_whole_part_by_part(self):
        for web, order in those_floors():
            told = holes(web, order)
            self.assertIs(type(told), int)
            self.assertGreaterEqual(told, 0)
            self.assertEqual(told, holes_by_hand(web, order))
            self.assertEqual(sum(holes_by_parts(web, order)), told)
            self.assertTrue(all(type(many) is int and many >= 0 for many in holes_by_parts(web, order)))

    def test_seen_from_its_faces(self):
        for web, order in those_floors():
            if len(faces(web, order)) <= 25:
                once = seen(web, order)
                self.assertEqual(holes(once[0], once[1]), holes(web, order))
                self.assertEqual(seen(once[0], once[1]), by_least_ends(web, order))

    def test_an_order_is_read_back_from_its_table(self):
        for web, order in those_floors():
            table = faces(web, order)
            self.assertEqual(order_by(web, table), order)
            self.assertEqual(read_table(table), by_least_ends(web, order))

    def test_a_tie_put_in(self):
        for web, order in those_floors(2):
            ends = range(2 * len(web[1]))
            if len(web[1]) < 24:
                for one, other in itertools.product(ends[::2], ends[::3]):
                    told = put_in(web, order, one, other)
                    one_face = follower(web, order, other) in face_of(web, order, follower(web, order, one))
                    places = {place_of(web, one), place_of(web, other)}
                    one_part = any(places <= set(part) for part in parts_of(web))
                    more = 1 if one_part and not one_face else 0
                    self.assertEqual(holes(told[0], told[1]), holes(web, order) + more)

    def test_a_tie_taken_out_or_drawn_in(self):
        for web, order in those_floors(2):
            for tie, (a, b) in enumerate(web[1]):
                told = taken_out(web, order, tie)
                one_face = 2 * tie + 1 in face_of(web, order, 2 * tie)
                still = any({a, b} <= set(part) for part in parts_of(told[0]))
                self.assertEqual(holes(told[0], told[1]), holes(web, order) - (1 if one_face and still else 0))
                if a != b:
                    told = drawn_in(web, order, tie)
                    self.assertEqual(holes(told[0], told[1]), holes(web, order))

    def test_all_orders_of_small_webs_counted(self):
        for web in [web for web in SMALL_WEBS + VARIED if orders_many(web) <= 960]:
            come = [holes_by_hand(web, order) for order in orders_by_hand(web)]
            told = counts(web)
            self.assertEqual(told, [come.count(many) for many in range(max(come) + 1)])
            self.assertEqual(sum(told), orders_many(web))
            for (many, order), right in ((fewest(web), min(come)), (most(web), max(come))):
                self.assertEqual((many, holes_by_hand(web, order)), (right, right))
                self.assertEqual(number_of(web, order), come.index(right))
            self.assertTrue(all(told[min(come):]))

    def test_no_paper_whoever_wrote_it_is_contradicted(self):
        for web in LITTLE:
            come = [holes_by_hand(web, order) for order in orders_by_hand(web)]
            for told in self.bars_below(web):
                self.assertLessEqual(told, min(come), web)
            for told in self.bars_above(web):
                self.assertGreaterEqual(told, max(come), web)
            for told in self.shown(web):
                self.assertLessEqual(told, max(come), web)

    def bars_below(self, web):
        rows = list(itertools.product((0, 1, 2), repeat=web[0]))
        for heights in itertools.product(rows, repeat=min(3, len(web[1]))):
            for shortest in (1, 2, 3, 4):
                told = ring_bars(web, (shortest, heights))
                if told is not None:
                    yield told

    def bars_above(self, web):
        for many in range(len(web[1]) + 1):
            for paper in itertools.combinations(range(len(web[1])), many):
                yield set_bars(web, paper)

    def shown(self, web):
        ties = range(len(web[1]))
        pairs = [()] + [(pair,) for pair in itertools.product(ties, repeat=2)]
        for tree in itertools.combinations(ties, web[0] - 1):
            for paper in [(tree, some) for some in pairs]:
                told = tree_shows(web, paper)
                if told is not None:
                    self.assertGreaterEqual(holes_by_hand(web, laid(web, paper)), told)
                    yield told

    def test_papers_from_both_sides_meet(self):
        for web in LITTLE + VARIED:
            many, tree_paper, set_paper = most_papers(web)
            self.assertEqual((tree_shows(web, tree_paper), set_bars(web, set_paper)), (many, many))
            self.assertEqual(holes_by_hand(web, laid(web, tree_paper)), many)

    def test_webs_joined(self):
        for one, other in itertools.product(LITTLE, repeat=2):
            for place, its in itertools.product({0, one[0] - 1}, {0, other[0] - 1}):
                joined = joined_at(one, place, other, its)
                if orders_many(joined) <= 960:
                    self.assertEqual(fewest(joined)[0], fewest(one)[0] + fewest(other)[0])
                joined = joined_by(one, place, other, its)
                if orders_many(joined) <= 960:
                    self.assertEqual(counts(joined), multiplied(one, place, other, its))

    def test_two_sides_or_one(self):
        for web, order, crossings in crossed_floors(WEBS, most=2):
            told = sides(web, crossings)
            self.assertIs(shows_sides(web, crossings, told), True)
            if told[0] == "two":
                self.assertEqual(lack(web, order, crossings) % 2, 0)
                self.assertEqual([told[1][a] ^ told[1][b] for a, b in web[1]], list(crossings))
            else:
                self.assertEqual(sum(crossings[end // 2] for end in told[1]) % 2, 1)

    def test_floors_are_alike_just_where_they_are_one_but_for_numbers(self):
        for web in (LOOP, ONE_TIE, TWO_LOOPS, THETA, DUMBBELL, (2, ((0, 1), (1, 1), (1, 1)))):
            orders = orders_by_hand(web)
            for order in orders[::3]:
                ways = itertools.product(
                    itertools.permutations(range(web[0])), itertools.permutations(range(len(web[1]))),
                    itertools.product((0, 1), repeat=len(web[1])),
                )
                named = {}
                for places, ties, turned in ways:
                    floor, names = renamed(web, order, places, ties, turned)
                    named[floor] = min(named.get(floor, names), names)
                for other in orders:
                    self.assertEqual(alike(web, order, web, other), named.get((web, other)))


class Over(unittest.TestCase):
    def test_what_is_told_may_be_handed_in_again(self):
        for web, order in those_floors(3):
            self.assertEqual(order_at(web, number_of(web, order)), order)
            self.assertEqual(read(written(web, order)), (web, order))
            self.assertEqual(mirrored(mirrored(order)), order)
            if len(parts_of(web)) == 1 and rank_of(web) > 0:
                self.assertIsNotNone(ring_bars(web, ring_paper(web)))

    def test_lists_that_are_told_are_the_askers_own(self):
        web, order = THETA, order_at(THETA, 1)
        asked = (
            (parts_of, web), (ends_at, web, 0), (faces, web, order), (holes_by_parts, web, order), (counts, web),
            (turnings, web, order),
        )
        for call, *things in asked:
            right = copy.deepcopy(call(*things))
            told = call(*things)
            told.append(None)
            again = call(*things)
            told.clear()
            self.assertEqual(again, right)
            self.assertEqual(call(*things), right)
        two, one = crossed_counts(web)
        right = copy.deepcopy((two, one))
        two.append(7)
        one.clear()
        self.assertEqual(crossed_counts(web), right)

    def test_a_floor_turned_over_everywhere_is_mirrored(self):
        for web, order, crossings in crossed_floors(SMALL_WEBS, most=3):
            told = (order, crossings)
            for place in range(web[0]):
                told = turned_over(web, told[0], told[1], place)
            self.assertEqual(told, (mirrored(order), crossings))
            self.assertEqual(lack(web, told[0], told[1]), lack(web, order, crossings))

    def test_a_desk_tells_what_the_modules_tell(self):
        for web, order in those_floors(2):
            (other, its_order), names = shuffled(web, order, 3)
            desk = Desk()
            desk.say(f"floor one\n{written(web, order)}")
            desk.say(f"floor other\n{written(other, its_order)}")
            self.assertEqual(desk.say("holes one"), desk.say("holes other"))
            self.assertEqual(desk.say("rank one"), str(rank_of(web)))
            if len(parts_of(web)) == 1:
                self.assertEqual(desk.say("alike one other"), "yes")
                self.assertEqual(code(web, order), code(other, its_order))

    def test_floors_joined_have_the_holes_of_both(self):
        those = [floor for floor in those_floors(2) if floor[0][0] <= 9 and len(floor[0][1]) <= 9]
        for (one, order), (other, its_order) in itertools.product(those[::2], those[::3]):
            web = joined_at(one, 0, other, other[0] - 1)
            told = orders_joined(one, order, 0, other, its_order, other[0] - 1)
            self.assertEqual(holes(web, told), holes(one, order) + holes(other, its_order))
