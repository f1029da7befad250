import copy
import unittest

from holefloor.errors import NoWeb
from holefloor.webs import ends_at, parts_of, place_of, rank_of, web_of
from tests.refusing import LONG, STRANGE, Refusing
from tests.samples import WEBS


class MakingWebs(Refusing):
    def assert_web(self, told, web):
        self.assertEqual(told, web)
        self.assertIs(type(told), tuple)
        self.assertIs(type(told[0]), int)
        self.assertIs(type(told[1]), tuple)
        for tie in told[1]:
            self.assertIs(type(tie), tuple)
            self.assertEqual([type(place) for place in tie], [int, int])

    def test_lists_and_tuples_make_the_same_web(self):
        web = (3, ((0, 1), (2, 1), (2, 2)))
        for outer in (list, tuple):
            for inner in (list, tuple):
                self.assert_web(web_of(3, outer(inner(tie) for tie in web[1])), web)
        self.assert_web(web_of(3, [[0, 1], (2, 1), [2, 2]]), web)

    def test_a_tie_keeps_its_direction_and_its_number(self):
        self.assert_web(web_of(2, [(1, 0), (0, 1), (0, 0)]), (2, ((1, 0), (0, 1), (0, 0))))

    def test_a_tie_from_a_place_to_itself(self):
        self.assert_web(web_of(1, [(0, 0)]), (1, ((0, 0),)))

    def test_the_same_pair_several_times(self):
        self.assert_web(web_of(2, [[0, 1]] * 3 + [[1, 0]]), (2, ((0, 1),) * 3 + ((1, 0),)))

    def test_how_many_places(self):
        self.assert_web(web_of(1, []), (1, ()))
        self.assert_web(web_of(25, ()), (25, ()))
        self.assert_web(web_of(25, [(0, 24)]), (25, ((0, 24),)))
        for many in (0, 26, -1, 27, 1000) + LONG:
            self.assert_refused(NoWeb, web_of, many, [])

    def test_how_many_ties(self):
        self.assert_web(web_of(2, []), (2, ()))
        self.assert_web(web_of(2, [(0, 1)] * 24), (2, ((0, 1),) * 24))
        self.assert_web(web_of(25, [(k, k + 1) for k in range(24)]), (25, tuple((k, k + 1) for k in range(24))))
        for many in (25, 26, 100):
            self.assert_refused(NoWeb, web_of, 2, [(0, 1)] * many)
            self.assert_refused(NoWeb, web_of, 2, ((0, 1),) * many)

    def test_ties_to_what_is_no_place_are_refused(self):
        for many in (1, 2, 25):
            for place in (-1, -many, many, many + 1) + LONG:
                self.assert_refused(NoWeb, web_of, many, [(place, 0)])
                self.assert_refused(NoWeb, web_of, many, [(0, place)])
                self.assert_refused(NoWeb, web_of, many, [[0, 0], [0, place], [0, 0]])

    def test_strange_things_in_the_place_of_the_number_are_refused(self):
        for thing in STRANGE + ([], (), [1], (1,)):
            self.assert_refused(NoWeb, web_of, thing, [])
            self.assert_refused(NoWeb, web_of, thing, [(0, 0)])

    def test_strange_things_in_the_place_of_the_ties_are_refused(self):
        for thing in STRANGE + (0, 1, -1, [0], (0, 0), [0, 0], [[]], [()], LONG):
            self.assert_refused(NoWeb, web_of, 2, thing)

    def test_strange_things_in_the_place_of_a_tie_are_refused(self):
        for thing in STRANGE + (0, 1, [], (), [0], (1,), [0, 1, 0], (0, 0, 0), [[0, 1]], ((0, 1), (0, 1))):
            self.assert_refused(NoWeb, web_of, 2, [thing])
            self.assert_refused(NoWeb, web_of, 2, (thing,))
            self.assert_refused(NoWeb, web_of, 2, [(0, 1), thing, (1, 1)])

    def test_strange_things_in_the_place_of_a_place_are_refused(self):
        for thing in STRANGE + ([], (), [0], (0,)):
            self.assert_refused(NoWeb, web_of, 2, [(thing, 1)])
            self.assert_refused(NoWeb, web_of, 2, ([0, thing],))

    def test_what_is_handed_in_stays_as_it_was(self):
        ties = [[0, 1], (1, 1), [1, 0]]
        before = copy.deepcopy(ties)
        web_of(2, ties)
        self.assertEqual(ties, before)
        self.assertEqual([type(tie) for tie in ties], [list, tuple, list])

    def test_what_is_done_afterwards_changes_no_web(self):
        ties = [[0, 1], [1, 1]]
        web = web_of(2, ties)
        ties[0][0] = 1
        ties.append([0, 0])
        del ties[1][:]
        self.assert_web(web, (2, ((0, 1), (1, 1))))

    def test_a_web_that_was_told_may_be_handed_in_again(self):
        for web in WEBS:
            self.assert_web(web_of(web[0], web[1]), web)


class Ends(unittest.TestCase):
    def test_each_end_at_its_place(self):
        web = web_of(4, [(0, 2), (2, 2), (1, 0), (0, 2)])
        self.assertEqual([place_of(web, end) for end in range(8)], [0, 2, 2, 2, 1, 0, 0, 2])
        self.assertEqual([ends_at(web, place) for place in range(4)], [[0, 5, 6], [4], [1, 2, 3, 7], []])

    def test_both_ends_of_a_tie_from_a_place_to_itself(self):
        web = web_of(3, [(1, 1)])
        self.assertEqual(ends_at(web, 1), [0, 1])
        self.assertEqual([place_of(web, 0), place_of(web, 1)], [1, 1])
        self.assertEqual([ends_at(web, 0), ends_at(web, 2)], [[], []])

    def test_each_end_once_over_all_places(self):
        for web in WEBS:
            many, ties = web
            told = [ends_at(web, place) for place in range(many)]
            for place, ends in enumerate(told):
                self.assertIs(type(ends), list)
                self.assertEqual(ends, sorted(ends))
                for end in ends:
                    self.assertEqual(place_of(web, end), place)
            self.assertEqual(sorted(sum(told, [])), list(range(2 * len(ties))))

    def test_even_ends_are_where_a_tie_is_from_and_odd_ones_where_it_leads_to(self):
        for web in WEBS:
            for k, (a, b) in enumerate(web[1]):
                self.assertEqual((place_of(web, 2 * k), place_of(web, 2 * k + 1)), (a, b))
                self.assertIn(2 * k, ends_at(web, a))
                self.assertIn(2 * k + 1, ends_at(web, b))

    def test_a_told_list_is_the_askers_own(self):
        web = web_of(2, [(0, 1), (0, 0)])
        ends = ends_at(web, 0)
        ends.clear()
        again = ends_at(web, 0)
        self.assertEqual(again, [0, 2, 3])
        ends.append(7)
        self.assertEqual(again, [0, 2, 3])
        self.assertEqual(web, (2, ((0, 1), (0, 0))))


class Parts(unittest.TestCase):
    def assert_parts(self, web, parts, rank):
        told = parts_of(web)
        self.assertEqual(told, parts)
        self.assertIs(type(told), list)
        self.assertEqual({type(part) for part in told}, {list})
        self.assertEqual(rank_of(web), rank)
        self.assertIs(type(rank_of(web)), int)

    def test_one_part(self):
        self.assert_parts(web_of(1, []), [[0]], 0)
        self.assert_parts(web_of(3, [(2, 1), (0, 2)]), [[0, 1, 2]], 0)
        self.assert_parts(web_of(3, [(2, 1), (0, 2), (1, 0)]), [[0, 1, 2]], 1)
        self.assert_parts(web_of(2, [(0, 1)] * 24), [[0, 1]], 23)
        self.assert_parts(web_of(25, [(k + 1, k) for k in range(24)]), [list(range(25))], 0)

    def test_several_parts(self):
        self.assert_parts(web_of(5, [(3, 0), (4, 1)]), [[0, 3], [1, 4], [2]], 0)
        self.assert_parts(web_of(6, [(5, 1), (4, 2), (1, 3), (3, 5)]), [[0], [1, 3, 5], [2, 4]], 1)

    def test_parts_that_later_ties_bring_together(self):
        self.assert_parts(web_of(6, [(4, 5), (2, 3), (0, 1), (5, 3), (2, 1)]), [[0, 1, 2, 3, 4, 5]], 0)
        self.assert_parts(web_of(6, [(0, 1), (2, 3), (4, 5), (3, 4), (5, 2)]), [[0, 1], [2, 3, 4, 5]], 1)

    def test_no_ties(self):
        self.assert_parts(web_of(4, []), [[0], [1], [2], [3]], 0)
        self.assert_parts(web_of(25, []), [[place] for place in range(25)], 0)

    def test_ties_from_a_place_to_itself(self):
        self.assert_parts(web_of(3, [(1, 1)]), [[0], [1], [2]], 1)
        self.assert_parts(web_of(3, [(1, 1), (2, 0), (1, 1), (0, 0)]), [[0, 2], [1]], 3)
        self.assert_parts(web_of(1, [(0, 0)] * 24), [[0]], 24)

    def test_places_hang_together_just_where_ties_lead(self):
        for web in WEBS:
            many, ties = web
            reached = [{place} for place in range(many)]
            for step in range(many):
                for a, b in ties:
                    joined = reached[a] | reached[b]
                    for place in joined:
                        reached[place] = joined
            parts = sorted(sorted(part) for part in {frozenset(part) for part in reached})
            self.assert_parts(web, parts, len(ties) - many + len(parts))

    def test_told_lists_are_the_askers_own(self):
        web = web_of(3, [(0, 2)])
        told = parts_of(web)
        told[0].clear()
        told.append([9])
        again = parts_of(web)
        self.assertEqual(again, [[0, 2], [1]])
        self.assertEqual(rank_of(web), 0)
        told[1].append(5)
        self.assertEqual(again, [[0, 2], [1]])
