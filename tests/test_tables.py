import copy
import itertools

from holefloor.errors import NoOrder, NoTable
from holefloor.faces import faces
from holefloor.orders import order_of
from holefloor.tables import order_by, read_table
from holefloor.webs import web_of
from tests.refusing import LONG, STRANGE, Refusing
from tests.samples import (
    LONG_PATH, LOOP, LOOPS_24, NO_TIES, ONE_PLACE, ONE_TIE, SCATTERED, SMALL_WEBS, THETA, TIES_24, TWO_LOOPS, WEBS,
    floors, orders_by_hand, some_orders,
)


def forms_of(table):
    """The table as lists and as tuples, its faces in other orders and begun with other ends."""
    turned = [face[turn % len(face):] + face[:turn % len(face)] if face else () for turn, face in enumerate(table, 1)]
    for told in (table, table[::-1], turned, turned[::-1]):
        for outer in (list, tuple):
            for inner in (list, tuple):
                yield outer(inner(face) for face in told)
        yield [list(face) if at % 2 else tuple(face) for at, face in enumerate(told)]


def by_least_ends(web, order):
    """The floor with its places numbered as those of a table that is read."""
    rows = sorted(order)
    ties = [
        tuple([end in row for row in rows].index(True) for end in (2 * tie, 2 * tie + 1)) for tie in range(len(web[1]))
    ]
    return ((web[0], tuple(ties)), tuple(rows))


def no_tables():
    """What is no table, whatever web it may be for."""
    ends = [
        [[0]], [[1]], [[0, 0]], [[1, 1]], [[1, 2]], [[0, 2]], [[0], [2]], [[0, -1]], [[-1, 0, 1, 2]], [[-2, -1]],
        [[0, 1], [2]], [[0, 1, 2]], [[0, 1, 1]], [[0], [0, 1]], [[0, 1], [0, 1]], [[0, 1], [3, 4]], [[0, 1, 2, 4]],
        [[0, 1, 2, 3], [4]], [[0, 1, 2, 2]], [[0, 1, 3, 3]], [[0, 1], [], [1]], [[], [1]],
    ]
    strange = [
        [[False, True]], [[0, True]], [[False, 1]], ((False,), (True,)), [[0, "1"]], [["0", "1"]], [[None, 0, 1]],
        [[0, 1, None]], [[0, 1], None], [[0, 1], 0], [[0, 1], True], [[0, 1], ""], [[0, 1], "23"], [[0, 1], {}],
        [[0, 1], {2: 0, 3: 1}], [[0, 1, [2, 3]]], [[[0, 1]]], [((0,), (1,))], [[0, [1]]], [{0: 1, 1: 0}], {0: [0, 1]},
        {(0, 1): 0}, [[], ""], [[], None], [[], {}], ["", ""], [{}], [""], ["01"], [[0, 1], [2, "3"]],
        [[0, 1], [2, {}]], [0], [0, 1], (0, 1), 0, 1, -1, [[0, LONG[0]]], [[0, LONG[1]]], [list(LONG)],
    ]
    many = [[list(range(50))], [[end] for end in range(50)], [list(range(0, 50, 2)), list(range(1, 50, 2))]]
    return list(STRANGE) + ends + strange + many + [tuple(tuple(face) for face in table) for table in ends + many]


class ReadingTables(Refusing):
    def assert_read(self, table, floor):
        before = copy.deepcopy(table)
        told = read_table(table)
        self.assertEqual(told, floor)
        web, order = told
        self.assertEqual(web_of(web[0], web[1]), web)
        self.assertEqual(order_of(web, order), order)
        self.assertEqual([type(told), type(web), type(web[1]), type(order)], [tuple] * 4)
        self.assertEqual({type(thing) for thing in web[1] + order}, {tuple})
        self.assertEqual(repr(table), repr(before))

    def test_small_tables(self):
        self.assert_read([[]], (ONE_PLACE, ((),)))
        self.assert_read([[0, 1]], ((2, ((0, 1),)), ((0,), (1,))))
        self.assert_read(((1, 0),), ((2, ((0, 1),)), ((0,), (1,))))
        self.assert_read([[1], [0]], (LOOP, ((0, 1),)))
        self.assert_read([(), [1], (0,), []], ((3, ((2, 2),)), ((), (), (0, 1))))
        self.assert_read([[3, 1, 2, 0]], (TWO_LOOPS, ((0, 2, 1, 3),)))
        self.assert_read([[0, 2], [3], [1]], (TWO_LOOPS, ((0, 1, 2, 3),)))
        self.assert_read([[0, 2, 4], [5, 3, 1]], ((3, ((0, 1), (1, 2), (2, 0))), ((0, 5), (1, 2), (3, 4))))

    def test_the_floor_whose_faces_are_told(self):
        for web in SMALL_WEBS:
            for order in orders_by_hand(web):
                told = faces(web, order)
                self.assert_read(told, by_least_ends(web, order))
                self.assertEqual(faces(*read_table(told)), told)

    def test_every_form_of_a_table(self):
        for web, order in floors():
            told = faces(web, order)
            for form in forms_of(told):
                self.assert_read(form, by_least_ends(web, order))
                self.assertEqual(faces(*read_table(form)), told)

    def test_every_table_of_two_ties(self):
        # Each way to go through the ends, one to the next, is a table; it is read to a floor with just these faces.
        for nexts in itertools.permutations(range(4)):
            left, told = list(range(4)), []
            while left:
                face = [left[0]]
                while nexts[face[-1]] != face[0]:
                    face.append(nexts[face[-1]])
                left = [end for end in left if end not in face]
                told.append(tuple(face))
            web, order = read_table(told)
            self.assertEqual(faces(web, order), told)
            self.assertEqual(list(order), sorted(order))

    def test_24_ties(self):
        self.assert_read([list(range(48))], by_least_ends(*self.floor_of_one_face()))
        self.assert_read([[end] for end in range(48)], self.floor_of_48_faces())
        self.assertEqual(read_table(faces(LONG_PATH, some_orders(LONG_PATH)[0]))[0][0], 25)

    def floor_of_one_face(self):
        # Round the one face each end leads on to the next one, so the ends of ties stand in rows of their own.
        follows = {end: ((end + 1 if end % 2 == 0 else end - 1) + 1) % 48 for end in range(48)}
        rows, left = [], set(range(48))
        while left:
            row = [min(left)]
            while follows[row[-1]] != row[0]:
                row.append(follows[row[-1]])
            left -= set(row)
            rows.append(tuple(row))
        places = {end: place for place, row in enumerate(rows) for end in row}
        return (len(rows), tuple((places[end], places[end + 1]) for end in range(0, 48, 2))), tuple(rows)

    def floor_of_48_faces(self):
        web = (24, tuple((place, place) for place in range(24)))
        return web, tuple((2 * place, 2 * place + 1) for place in range(24))

    def test_25_places_and_more(self):
        self.assert_read([[]] * 25, (NO_TIES, ((),) * 25))
        self.assert_refused(NoTable, read_table, [[]] * 26)
        self.assert_refused(NoTable, read_table, ((),) * 100)
        lone = [[end] for end in range(48)]
        rows = self.floor_of_48_faces()[1]
        self.assert_read(lone + [[]], ((25, tuple((k, k) for k in range(1, 25))), ((),) + rows))
        self.assert_refused(NoTable, read_table, lone + [[], []])
        self.assert_refused(NoTable, read_table, [[2 * k, 2 * k + 1] for k in range(13)])
        self.assertEqual(read_table([[2 * k, 2 * k + 1] for k in range(12)])[0][0], 24)
        self.assertEqual(read_table([[2 * k, 2 * k + 1] for k in range(12)] + [[]])[0][0], 25)
        self.assert_refused(NoTable, read_table, [[2 * k, 2 * k + 1] for k in range(12)] + [[], []])

    def test_a_table_of_no_faces(self):
        self.assert_refused(NoTable, read_table, [])
        self.assert_refused(NoTable, read_table, ())

    def test_what_is_no_table(self):
        for thing in no_tables():
            self.assert_refused(NoTable, read_table, thing)

    def test_a_right_table_with_one_end_wrong(self):
        table = [[0, 5], [1, 3], [2, 4]]
        read_table(table)
        for face in range(3):
            for at in range(2):
                for thing in STRANGE + (-1, 6, 7, 48, table[face][1 - at], (0,), [1], [], ()) + LONG:
                    wrong = copy.deepcopy(table)
                    wrong[face][at] = thing
                    self.assert_refused(NoTable, read_table, wrong)

    def test_25_ties(self):
        read_table([list(range(0, 48, 2)), list(range(1, 48, 2))])
        self.assert_refused(NoTable, read_table, [list(range(0, 50, 2)), list(range(1, 50, 2))])

    def test_what_is_done_afterwards_changes_no_floor(self):
        table = [[0, 2], [3], [1]]
        told = read_table(table)
        table[0].clear()
        table.pop()
        self.assertEqual(told, (TWO_LOOPS, ((0, 1, 2, 3),)))


class OrdersByTables(Refusing):
    def test_the_faces_of_an_order_tell_this_order(self):
        for web in SMALL_WEBS:
            for order in orders_by_hand(web):
                self.assertEqual(order_by(web, faces(web, order)), order)

    def test_every_form_of_a_table(self):
        for web, order in floors():
            for form in forms_of(faces(web, order)):
                before = copy.deepcopy(form)
                told = order_by(web, form)
                self.assertEqual(told, order)
                self.assertEqual([type(told)] + [type(row) for row in told], [tuple] * (1 + len(order)))
                self.assertEqual(repr(form), repr(before))

    def test_fewer_or_more_ends(self):
        for web, order in floors(WEBS, most=1):
            told = [list(face) for face in faces(web, order)]
            many = 2 * len(web[1])
            self.assert_refused(NoTable, order_by, web, told + [[many, many + 1]])
            if many:
                less = [[end for end in face if end < many - 2] for face in told]
                self.assert_refused(NoTable, order_by, web, [face for face in less if face])
        self.assert_refused(NoTable, order_by, THETA, [[0, 2], [3], [1]])
        self.assert_refused(NoTable, order_by, TWO_LOOPS, [[0, 5], [1, 3], [2, 4]])
        self.assert_refused(NoTable, order_by, ONE_PLACE, [[], [0, 1]])

    def test_fewer_or_more_faces_without_ends(self):
        for web, order in floors(WEBS, most=1):
            told = faces(web, order)
            self.assert_refused(NoTable, order_by, web, told + [()])
            self.assert_refused(NoTable, order_by, web, [[]] + told)
            if () in told:
                self.assert_refused(NoTable, order_by, web, told[1:])
        self.assert_refused(NoTable, order_by, ONE_PLACE, [])
        self.assert_refused(NoTable, order_by, NO_TIES, [[]] * 24)
        self.assert_refused(NoTable, order_by, NO_TIES, [[]] * 26)
        self.assertEqual(order_by(NO_TIES, [[]] * 25), ((),) * 25)

    def test_what_is_no_table(self):
        for web in (ONE_PLACE, ONE_TIE, LOOP, TWO_LOOPS, SCATTERED, LOOPS_24):
            for thing in no_tables():
                self.assert_refused(NoTable, order_by, web, thing)

    def test_a_table_of_no_order_of_the_web(self):
        self.assert_refused(NoOrder, order_by, LOOP, [[0, 1]])
        self.assert_refused(NoOrder, order_by, ONE_TIE, [[0], [1]])
        self.assert_refused(NoOrder, order_by, TWO_LOOPS, [[0, 1, 2, 3]])
        self.assert_refused(NoOrder, order_by, THETA, [[0, 2, 4], [5, 3, 1]])
        self.assert_refused(NoOrder, order_by, SCATTERED, [[], [], [0, 1], [2, 3]])

    def test_every_table_of_a_web_of_two_ties(self):
        for web in ((1, ((0, 0), (0, 0))), (2, ((0, 1), (1, 0))), (3, ((1, 0), (1, 2))), (2, ((1, 1), (0, 0)))):
            tables = {tuple(faces(web, order)): order for order in orders_by_hand(web)}
            for other in ((1, ((0, 0),) * 2), (2, ((0, 1),) * 2), (3, ((0, 1), (1, 2))), (4, ((0, 1), (2, 3)))):
                for order in orders_by_hand(other):
                    table = tuple(faces(other, order))
                    if table in tables:
                        self.assertEqual(order_by(web, table), tables[table])
                    else:
                        self.assert_refused(NoOrder, order_by, web, table)

    def test_a_web_with_its_places_exchanged(self):
        order = ((0, 3, 4), (1, 5, 2))
        self.assertEqual(order_by((2, ((1, 0), (0, 1), (1, 0))), faces(THETA, order)), order[::-1])

    def test_a_table_that_by_itself_would_have_too_many_places(self):
        lone = [[2 * tie, 2 * tie + 1] for tie in range(24)]
        self.assert_refused(NoTable, read_table, lone)
        for web in (LOOPS_24, LONG_PATH, TIES_24):
            self.assert_refused(NoOrder, order_by, web, lone)
        web = (2, ((0, 0),) * 24)
        self.assert_refused(NoTable, order_by, web, lone)
        self.assert_refused(NoOrder, order_by, web, lone + [()])
        web = (13, ((0, 0),) * 13)
        self.assert_refused(NoOrder, order_by, web, [[]] * 12 + lone[:13])

    def test_what_is_done_afterwards_changes_no_order(self):
        table = [[0, 2], [3], [1]]
        told = order_by(TWO_LOOPS, table)
        table[0].clear()
        table.pop()
        self.assertEqual(told, ((0, 1, 2, 3),))
