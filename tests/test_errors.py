"""The refusals: their classes, their fields, what stands above them."""

import unittest

from squareweb.errors import BadSides, NoCut, NoName, NoRow, NoSquare, NoText, SquareError, TooMany

OF_A_TEXT = [NoCut, NoText, NoName, NoRow]
ALL = OF_A_TEXT + [NoSquare, TooMany, BadSides]


class ErrorsTest(unittest.TestCase):
    def test_any_refusal_is_a_value_error(self):
        self.assertEqual(SquareError.__bases__, (ValueError,))

    def test_each_stands_under_square_error_alone(self):
        for kind in ALL:
            self.assertEqual(kind.__bases__, (SquareError,), kind)

    def test_each_is_a_class_of_its_own(self):
        self.assertEqual(len(set(ALL)), 7)
        self.assertEqual([kind.__name__ for kind in ALL],
                         ["NoCut", "NoText", "NoName", "NoRow", "NoSquare", "TooMany", "BadSides"])

    def test_made_of_a_text(self):
        for kind in OF_A_TEXT:
            self.assertEqual(str(kind("no such thing")), "no such thing")

    def test_raised_and_caught_as_any_refusal(self):
        for refusal in [kind("text") for kind in OF_A_TEXT] + [NoSquare(3), TooMany(25), BadSides(0, 2)]:
            with self.assertRaises(SquareError) as caught:
                raise refusal
            self.assertIsInstance(caught.exception, ValueError)

    def test_no_square_tells_the_number(self):
        for number in [0, -1, 24, 10 ** 40, 10 ** 5000]:
            self.assertEqual(NoSquare(number).number, number)
        self.assertEqual(NoSquare(number=7).number, 7)

    def test_too_many_tells_how_many(self):
        for many in [0, -5, 25, 10 ** 40, 10 ** 5000]:
            self.assertEqual(TooMany(many).many, many)
        self.assertEqual(TooMany(many=7).many, 7)

    def test_bad_sides_tells_both_sides(self):
        for width, height in [(0, 1), (1, 0), (-3, 10 ** 40), (10 ** 5000, 2)]:
            refusal = BadSides(width, height)
            self.assertEqual((refusal.width, refusal.height), (width, height))
        refusal = BadSides(height=4, width=3)
        self.assertEqual((refusal.width, refusal.height), (3, 4))

    def test_messages_can_be_read(self):
        for refusal in [NoSquare(10 ** 5000), TooMany(10 ** 5000), BadSides(10 ** 5000, 10 ** 5000)]:
            self.assertTrue(str(refusal))


if __name__ == "__main__":
    unittest.main()
