"""The classes of errors.py, also those that only later stages raise."""

import unittest

from blockcarrier import errors
from blockcarrier.errors import BadBoard, BadCount, BadFence, BadText, CarrierError, NotSure

KINDS = (BadBoard, BadFence, NotSure, BadCount, BadText)


class Errors(unittest.TestCase):
    def test_each_stands_under_carrier_error_alone(self):
        self.assertEqual(CarrierError.__bases__, (ValueError,))
        for kind in KINDS:
            self.assertEqual(kind.__bases__, (CarrierError,), kind)

    def test_none_is_another_one(self):
        for kind in KINDS:
            for other in KINDS:
                self.assertEqual(issubclass(kind, other), kind == other)

    def test_each_is_defined_in_errors(self):
        for kind in (CarrierError, *KINDS):
            self.assertEqual(kind.__module__, "blockcarrier.errors")
            self.assertIs(getattr(errors, kind.__name__), kind)

    def test_values_are_set_when_the_error_is_created(self):
        refused = BadBoard("orders", 3)
        self.assertEqual((refused.word, refused.number), ("orders", 3))
        self.assertEqual(BadFence(30).number, 30)
        self.assertEqual(BadText(7).row, 7)
        self.assertIsInstance(NotSure(), CarrierError)
        self.assertIsInstance(BadCount(), CarrierError)

    def test_values_go_by_name_too(self):
        refused = BadBoard(word="memory", number=0)
        self.assertEqual((refused.word, refused.number), ("memory", 0))
        self.assertEqual(BadFence(number=2).number, 2)
        self.assertEqual(BadText(row=1).row, 1)

    def test_each_has_a_message(self):
        for refused in (BadBoard("program", 4), BadFence(4), BadText(4)):
            self.assertIn("4", str(refused))


if __name__ == "__main__":
    unittest.main()
