"""The refusals, as the interface lists them."""

import unittest

from opencells import errors

NAMES = [
    "TooMany", "NotClosed", "Unlike", "NotFull", "Unreached", "Clash",
    "NoWords", "NotOpen", "NoBack", "NoText", "NoName", "NoLine",
]


class ErrorsTest(unittest.TestCase):

    def test_the_first_stands_straight_under_value_error(self):
        self.assertEqual(errors.CellError.__bases__, (ValueError,))

    def test_each_other_one_stands_straight_under_the_first(self):
        for name in NAMES:
            self.assertEqual(getattr(errors, name).__bases__, (errors.CellError,), name)

    def test_no_two_are_one(self):
        self.assertEqual(len({getattr(errors, name) for name in NAMES}), 12)

    def test_not_closed_has_its_fault(self):
        self.assertEqual(errors.NotClosed(("behind", 1, 0)).fault, ("behind", 1, 0))

    def test_clash_has_row_then_place(self):
        clash = errors.Clash(3, 5)
        self.assertEqual((clash.row, clash.place), (3, 5))

    def test_they_are_caught_by_name_and_keep_their_fields(self):
        with self.assertRaises(errors.CellError) as caught:
            raise errors.NotClosed(("begin",))
        self.assertEqual(caught.exception.fault, ("begin",))
        with self.assertRaises(errors.Clash) as caught:
            raise errors.Clash(0, 11)
        self.assertEqual((caught.exception.row, caught.exception.place), (0, 11))
        for name in NAMES:
            if name not in ("NotClosed", "Clash"):
                with self.assertRaises(getattr(errors, name)):
                    raise getattr(errors, name)("why")
