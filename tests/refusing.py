"""What the tests of refusals share."""

import copy
import unittest

from holefloor import errors

REFUSALS = (
    errors.NoWeb, errors.NoOrder, errors.NoNumber, errors.NoEnd, errors.NoTie, errors.NoPlace,
    errors.NoTable, errors.NoRing, errors.NoPaper, errors.Apart, errors.TooMany, errors.TooGreat,
    errors.NoText, errors.NoName, errors.NoRow,
)


def nested(thing, depth, wrap):
    for step in range(depth):
        thing = wrap(thing)
    return thing


# Things that are neither a whole number nor a row of rows of whole numbers.
STRANGE = (
    None, True, False, "", "0", "1", "01", "(0, 1)", {}, {0: 1}, {"a": [0]}, {0: 0, 1: 0},
    [None], [True], [False], ["0"], [{}], [[None]], [[True]], [["a", "b"]], [[{}, {}]],
    (None,), (True, False), ("01",), ({0: 0, 1: 1},), ((None, None),),
    [[], ""], [(), {}], [[0, True]], [[False, 1]], [(0, "1")], [(0, None)], [[0, [0]]], [((0,), 0)],
    nested(0, 10, lambda thing: [thing]), nested(0, 10, lambda thing: (thing,)),
    nested(0, 10, lambda thing: {0: thing}), nested(0, 10, lambda thing: [thing, thing]),
)

# Whole numbers of the greatest length that is handed in.
LONG = (10 ** 60 - 1, -(10 ** 60 - 1))


class Refusing(unittest.TestCase):
    """A test that can ask for one refusal, and for nothing changed by it."""

    def assert_refused(self, refusal, call, *things):
        before = copy.deepcopy(things)
        with self.assertRaises(errors.FloorError, msg=repr(things)) as caught:
            call(*things)
        error = caught.exception
        self.assertIsInstance(error, ValueError)
        for other in REFUSALS:
            self.assertEqual(isinstance(error, other), other is refusal, (other, things))
        self.assertEqual(repr(things), repr(before))

    def assert_told_none(self, call, *things):
        before = copy.deepcopy(things)
        self.assertIsNone(call(*things), repr(things))
        self.assertEqual(repr(things), repr(before))
