import unittest

from ablehands import errors

NAMES = [
    "NoBook", "NoDeal", "NoWay", "NoWeights", "NoWork", "NoHand", "NoRooms", "NoCosts", "TooMany", "NoText", "NoRow",
]


class Errors(unittest.TestCase):

    def test_deal_error_is_right_under_value_error(self):
        self.assertEqual(errors.DealError.__bases__, (ValueError,))

    def test_each_is_right_under_deal_error(self):
        for name in NAMES:
            with self.subTest(name=name):
                self.assertEqual(getattr(errors, name).__bases__, (errors.DealError,))
                self.assertEqual(getattr(errors, name).__name__, name)

    def test_none_is_under_another_one(self):
        for one in NAMES:
            for other in NAMES:
                under = issubclass(getattr(errors, one), getattr(errors, other))
                self.assertEqual(under, one == other, (one, other))

    def test_each_is_made_of_a_text(self):
        for name in NAMES + ["DealError"]:
            with self.subTest(name=name):
                with self.assertRaises(errors.DealError) as caught:
                    raise getattr(errors, name)("some words")
                self.assertEqual(str(caught.exception), "some words")


if __name__ == "__main__":
    unittest.main()
