import unittest

from holefloor import errors
from tests.refusing import REFUSALS


class Errors(unittest.TestCase):
    def test_any_refusal_is_a_value_error(self):
        self.assertEqual(errors.FloorError.__bases__, (ValueError,))

    def test_each_refusal_stands_straight_under_floor_error(self):
        self.assertEqual(len(set(REFUSALS)), 15)
        for refusal in REFUSALS:
            self.assertEqual(refusal.__bases__, (errors.FloorError,), refusal)

    def test_no_refusal_stands_under_another(self):
        for one in REFUSALS:
            for other in REFUSALS:
                self.assertEqual(issubclass(one, other), one is other, (one, other))

    def test_each_refusal_bears_its_name(self):
        names = (
            "NoWeb NoOrder NoNumber NoEnd NoTie NoPlace NoTable NoRing NoPaper Apart TooMany"
            " TooGreat NoText NoName NoRow"
        )
        self.assertEqual([refusal.__name__ for refusal in REFUSALS], names.split())

    def test_each_refusal_can_be_raised_and_taken(self):
        for refusal in REFUSALS:
            with self.assertRaises(errors.FloorError) as caught:
                raise refusal(1) if refusal is errors.NoText else refusal("why")
            self.assertIs(type(caught.exception), refusal)

    def test_no_text_is_made_of_its_row(self):
        for row in (1, 2, 51):
            self.assertEqual(errors.NoText(row).row, row)
            self.assertEqual(errors.NoText(row=row).row, row)
        with self.assertRaises(TypeError):
            errors.NoText()

    def test_no_text_keeps_its_row_when_it_is_taken(self):
        with self.assertRaises(errors.NoText) as caught:
            raise errors.NoText(7)
        self.assertEqual(caught.exception.row, 7)
