import unittest

from pocketmill import errors
from pocketmill.errors import BadText, MillError

MADE_WITH_A_TEXT = [
    "BadMill", "BadLate", "BadWord", "BadCode", "BadSize", "BadLetters", "BadPlan", "BadWish",
    "BadCount", "BadRow", "BadPrices", "NotOneOrder", "NoRow", "Shut", "BadDeed",
]


class Errors(unittest.TestCase):
    def test_0_4_mill_error_stands_under_value_error(self):
        self.assertEqual(MillError.__bases__, (ValueError,))

    def test_0_4_each_refusal_stands_straight_under_mill_error(self):
        for name in MADE_WITH_A_TEXT + ["BadText"]:
            self.assertEqual(getattr(errors, name).__bases__, (MillError,), name)

    def test_0_4_there_are_no_other_refusals_and_none_stands_under_another(self):
        names = [kind.__name__ for kind in MillError.__subclasses__()]
        self.assertEqual(sorted(names), sorted(MADE_WITH_A_TEXT + ["BadText"]))
        for kind in MillError.__subclasses__():
            self.assertEqual(kind.__subclasses__(), [])

    def test_refusals_are_made_with_a_text(self):
        for name in MADE_WITH_A_TEXT:
            self.assertEqual(str(getattr(errors, name)("a text")), "a text")

    def test_bad_text_keeps_its_row(self):
        for row in (1, 2, 6001):
            with self.assertRaises(MillError) as caught:
                raise BadText(row)
            self.assertEqual(caught.exception.row, row)


if __name__ == "__main__":
    unittest.main()
