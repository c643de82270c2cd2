import unittest

from roofsights import errors
from roofsights.errors import RoofError

NAMES = (
    "NoHeights", "NoNumber", "NoLot", "NoHouse", "NoCounts", "NoPlace", "NoHeight", "Taken", "Full", "NothingLeft",
)


class ErrorsTest(unittest.TestCase):
    def test_roof_error_is_a_value_error(self):
        self.assertTrue(issubclass(RoofError, ValueError))
        self.assertEqual(str(RoofError("why")), "why")

    def test_each_stands_under_roof_error_and_is_made_of_a_text(self):
        for name in NAMES:
            kind = getattr(errors, name)
            self.assertTrue(issubclass(kind, RoofError), name)
            self.assertIsNot(kind, RoofError)
            self.assertEqual(str(kind("why")), "why")
            self.assertEqual(kind.__module__, "roofsights.errors")

    def test_none_stands_under_another(self):
        for name in NAMES:
            for other in NAMES:
                if name != other:
                    self.assertFalse(issubclass(getattr(errors, name), getattr(errors, other)), (name, other))


if __name__ == "__main__":
    unittest.main()
