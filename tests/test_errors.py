import unittest

from soleway import errors
from soleway.errors import NoName, NoRow, NoSign, NotOnce, NoText, TooMany, TooWide, WayError


class Refusals(unittest.TestCase):

    def test_all_are_straight_under_the_one(self):
        self.assertEqual(WayError.__bases__, (ValueError,))
        for refusal in (NoText, TooMany, TooWide, NotOnce, NoSign, NoRow, NoName):
            self.assertEqual(refusal.__bases__, (WayError,), refusal)

    def test_all_are_defined_there(self):
        for refusal in (WayError, NoText, TooMany, TooWide, NotOnce, NoSign, NoRow, NoName):
            self.assertEqual(refusal.__module__, errors.__name__)

    def test_fields(self):
        for number in (0, 3, 1000):
            self.assertEqual(NoText(number).at, number)
            self.assertEqual(NoText(at=number).at, number)
            self.assertEqual(TooMany(number).most, number)
            self.assertEqual(TooMany(most=number).most, number)
        self.assertFalse(hasattr(NoText(1), "most"))
        self.assertFalse(hasattr(TooMany(1), "at"))

    def test_made_of_a_text(self):
        for refusal in (WayError, TooWide, NotOnce, NoSign, NoRow, NoName):
            self.assertEqual(str(refusal("so it is")), "so it is")

    def test_raised_and_caught(self):
        for error in (NoText(2), TooMany(5), TooWide("w"), NotOnce("o"), NoSign("s"), NoRow("r"), NoName("n")):
            with self.assertRaises(WayError) as caught:
                raise error
            self.assertIs(caught.exception, error)
            self.assertTrue(str(error))
            self.assertIsInstance(error, ValueError)


if __name__ == "__main__":
    unittest.main()
