import copy
import unittest

from holefloor.errors import NoOrder
from holefloor.orders import follower, forerunner, mirrored, order_of
from holefloor.webs import ends_at, place_of
from tests.refusing import LONG, STRANGE, Refusing
from tests.samples import FOUR_ALL, NO_TIES, ONE_PLACE, WEBS, some_orders

# Places of two, three, one and no ends.
WEB = (4, ((0, 1), (1, 1), (2, 0)))
ROWS = ((0, 5), (1, 2, 3), (4,), ())


def with_row(place, row, kind=list):
    rows = list(ROWS)
    rows[place] = row
    return kind(rows)


class MakingOrders(Refusing):
    def assert_order(self, told, order):
        self.assertEqual(told, order)
        self.assertIs(type(told), tuple)
        for row in told:
            self.assertIs(type(row), tuple)
            self.assertEqual([end for end in row if type(end) is not int], [])

    def test_lists_and_tuples_make_the_same_order(self):
        for outer in (list, tuple):
            for inner in (list, tuple):
                self.assert_order(order_of(WEB, outer(inner(row) for row in ROWS)), ROWS)
        self.assert_order(order_of(WEB, [[0, 5], (1, 2, 3), [4], ()]), ROWS)

    def test_a_row_may_begin_with_any_end(self):
        for row in ([1, 2, 3], (2, 3, 1), [3, 1, 2]):
            self.assert_order(order_of(WEB, with_row(1, row)), ROWS)
        for row in ((1, 3, 2), [3, 2, 1], (2, 1, 3)):
            self.assert_order(order_of(WEB, with_row(1, row)), ((0, 5), (1, 3, 2), (4,), ()))
        self.assert_order(order_of(WEB, ([5, 0], [3, 1, 2], [4], [])), ROWS)

    def test_every_row_of_a_greater_web_turned(self):
        for order in some_orders(FOUR_ALL):
            for turn in range(3):
                rows = [row[turn:] + row[:turn] for row in order]
                self.assert_order(order_of(FOUR_ALL, rows), order)

    def test_places_without_ends(self):
        self.assert_order(order_of(ONE_PLACE, [[]]), ((),))
        self.assert_order(order_of(NO_TIES, ((),) * 25), ((),) * 25)
        self.assert_refused(NoOrder, order_of, ONE_PLACE, [[0]])
        self.assert_refused(NoOrder, order_of, ONE_PLACE, [])

    def test_an_end_away(self):
        for row in ([], [1], [1, 2], (2, 3), (1, 3)):
            self.assert_refused(NoOrder, order_of, WEB, with_row(1, row))
        self.assert_refused(NoOrder, order_of, WEB, with_row(2, ()))

    def test_an_end_twice(self):
        for row in ([1, 2, 3, 1], (1, 2, 2), [1, 1, 1], [1, 1, 2, 2, 3, 3]):
            self.assert_refused(NoOrder, order_of, WEB, with_row(1, row))
        self.assert_refused(NoOrder, order_of, WEB, with_row(2, [4, 4]))

    def test_a_foreign_end(self):
        for end in (6, 7, 48, -1, -2) + LONG:
            self.assert_refused(NoOrder, order_of, WEB, with_row(1, (1, 2, end)))
            self.assert_refused(NoOrder, order_of, WEB, with_row(1, [end, 1, 2, 3], tuple))
            self.assert_refused(NoOrder, order_of, WEB, with_row(3, [end]))

    def test_an_end_at_another_place(self):
        self.assert_refused(NoOrder, order_of, WEB, ((0,), (1, 2, 3, 5), (4,), ()))
        self.assert_refused(NoOrder, order_of, WEB, ((0, 5), (1, 2, 3), (), (4,)))
        self.assert_refused(NoOrder, order_of, WEB, ((1, 5), (0, 2, 3), (4,), ()))
        self.assert_refused(NoOrder, order_of, WEB, ((0, 5, 4), (1, 2, 3), (4,), ()))

    def test_places_exchanged(self):
        for one in range(4):
            for other in range(one):
                rows = list(ROWS)
                rows[one], rows[other] = rows[other], rows[one]
                self.assert_refused(NoOrder, order_of, WEB, rows)
        self.assert_refused(NoOrder, order_of, (2, ((0, 1),)), [[1], [0]])

    def test_a_row_too_many_or_too_few(self):
        for rows in ([], ROWS[:1], ROWS[:3], ROWS[1:], ROWS + ((),), ((),) + ROWS, ROWS + ROWS):
            self.assert_refused(NoOrder, order_of, WEB, rows)
            self.assert_refused(NoOrder, order_of, WEB, list(rows))

    def test_strange_things_in_the_place_of_the_rows(self):
        for thing in STRANGE + (0, 4, [0, 5], (0, 1, 2, 3), {k: row for k, row in enumerate(ROWS)}, LONG):
            self.assert_refused(NoOrder, order_of, WEB, thing)
        for thing in ("", {}, None, 0, False):
            self.assert_refused(NoOrder, order_of, ONE_PLACE, thing)

    def test_strange_things_in_the_place_of_a_row(self):
        for place in range(4):
            for thing in STRANGE + (1, 4, [[4]], {end: end for end in ROWS[place]}, "123", "4"):
                self.assert_refused(NoOrder, order_of, WEB, with_row(place, thing))
                self.assert_refused(NoOrder, order_of, WEB, with_row(place, thing, tuple))

    def test_strange_things_in_the_place_of_an_end(self):
        for thing in STRANGE + ([], (), [1], (2,)):
            self.assert_refused(NoOrder, order_of, WEB, with_row(1, [thing, 2, 3]))
            self.assert_refused(NoOrder, order_of, WEB, with_row(1, (1, 2, thing)))
            self.assert_refused(NoOrder, order_of, WEB, with_row(0, (thing, 5)))
            self.assert_refused(NoOrder, order_of, WEB, with_row(3, [thing]))

    def test_a_truth_is_no_end(self):
        web = (1, ((0, 0),))
        for row in ([False, True], [0, True], (False, 1), [True, False]):
            self.assert_refused(NoOrder, order_of, web, [row])

    def test_what_is_handed_in_stays_as_it_was(self):
        rows = [[5, 0], (3, 1, 2), [4], []]
        before = copy.deepcopy(rows)
        order_of(WEB, rows)
        self.assertEqual(rows, before)

    def test_what_is_done_afterwards_changes_no_order(self):
        rows = [[5, 0], [3, 1, 2], [4], []]
        order = order_of(WEB, rows)
        rows[0].reverse()
        rows[1].clear()
        rows.pop()
        self.assert_order(order, ROWS)

    def test_an_order_that_was_told_may_be_handed_in_again(self):
        for web in WEBS:
            for order in some_orders(web)[:20]:
                self.assert_order(order_of(web, order), order)


class Followers(unittest.TestCase):
    def test_the_next_one_and_the_one_ahead(self):
        order = ((0, 5), (1, 3, 2), (4,), ())
        self.assertEqual([follower(WEB, order, end) for end in range(6)], [5, 3, 1, 2, 4, 0])
        self.assertEqual([forerunner(WEB, order, end) for end in range(6)], [5, 2, 3, 1, 4, 0])

    def test_the_last_ones_follower_is_the_first_one(self):
        for web in WEBS:
            for order in some_orders(web)[:20]:
                for row in order:
                    if row:
                        self.assertEqual(follower(web, order, row[-1]), row[0])
                        self.assertEqual(forerunner(web, order, row[0]), row[-1])

    def test_followers_go_once_through_each_place(self):
        for web in WEBS:
            for order in some_orders(web)[:20]:
                for end in range(2 * len(web[1])):
                    come = [end]
                    while follower(web, order, come[-1]) != end:
                        come.append(follower(web, order, come[-1]))
                    self.assertEqual(sorted(come), ends_at(web, place_of(web, end)))

    def test_a_forerunner_is_the_one_whose_follower_the_end_is(self):
        for web in WEBS:
            for order in some_orders(web)[:20]:
                for end in range(2 * len(web[1])):
                    self.assertEqual(follower(web, order, forerunner(web, order, end)), end)
                    self.assertEqual(forerunner(web, order, follower(web, order, end)), end)


class Mirrors(unittest.TestCase):
    def test_places_of_none_one_two_and_many_ends(self):
        self.assertEqual(mirrored(((),)), ((),))
        self.assertEqual(mirrored(((), (0,), (1, 3), (2, 4, 5))), ((), (0,), (1, 3), (2, 5, 4)))
        self.assertEqual(mirrored(((0, 2, 1, 3),)), ((0, 3, 1, 2),))
        self.assertEqual(mirrored((tuple(range(48)),)), ((0,) + tuple(range(47, 0, -1)),))

    def test_a_mirrored_order_is_an_order_and_twice_the_same(self):
        for web in WEBS:
            for order in some_orders(web):
                told = mirrored(order)
                self.assertIs(type(told), tuple)
                self.assertEqual({type(row) for row in told}, {tuple})
                self.assertEqual(order_of(web, told), told)
                self.assertEqual([row[:1] for row in told], [row[:1] for row in order])
                self.assertEqual(mirrored(told), order)

    def test_followers_become_forerunners(self):
        for web in WEBS:
            for order in some_orders(web)[:20]:
                told = mirrored(order)
                for end in range(2 * len(web[1])):
                    self.assertEqual(follower(web, told, end), forerunner(web, order, end))
