import unittest

from shortkeys import errors
from shortkeys.errors import BadHistory, BadPlan, BadText, KeepError

NAMES = [
    "BadRecipe", "BadName", "BadNumber", "BadPlan", "BadPlace", "BadSituation", "BadKey", "BadStock", "BadDeed",
    "BadHistory", "BadPrices", "BadOffers", "BadChoice", "BadPair", "TooLarge", "NothingDone", "BadText",
]


class ErrorsTest(unittest.TestCase):
    def test_keep_error_is_a_direct_value_error(self):
        self.assertEqual(KeepError.__bases__, (ValueError,))

    def test_all_others_are_direct_subclasses(self):
        for name in NAMES:
            found = getattr(errors, name)
            self.assertEqual((found.__name__, found.__bases__), (name, (KeepError,)))

    def test_there_are_no_others(self):
        self.assertEqual(sorted(cls.__name__ for cls in KeepError.__subclasses__()), sorted(NAMES))

    def test_they_are_defined_in_this_file(self):
        for name in NAMES + ["KeepError"]:
            self.assertEqual(getattr(errors, name).__module__, "shortkeys.errors")

    def test_plain_errors_are_raised_and_caught(self):
        for name in NAMES + ["KeepError"]:
            if name not in ("BadPlan", "BadHistory", "BadText"):
                with self.assertRaises(KeepError) as caught:
                    raise getattr(errors, name)("why")
                self.assertEqual(str(caught.exception), "why")

    def test_attributes(self):
        for part in (None, "BASE", "FIELDS", "CELLS", "PLACES", "DROPS"):
            self.assertEqual(BadPlan(part).part, part)
        for at in (None, 0, 99):
            self.assertEqual(BadHistory(at).index, at)
            self.assertEqual(BadText(at).row, at)


if __name__ == "__main__":
    unittest.main()
