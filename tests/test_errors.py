import unittest

from warmshare import errors

REFUSALS = (errors.NoRow, errors.NoMeasure, errors.WrongWay, errors.Full, errors.NoStream)


class Point2Refusals(unittest.TestCase):
    def test_heat_error_stands_straight_under_value_error(self):
        self.assertEqual(errors.HeatError.__bases__, (ValueError,))

    def test_each_refusal_stands_straight_under_heat_error(self):
        for refusal in REFUSALS:
            self.assertEqual(refusal.__bases__, (errors.HeatError,))

    def test_no_refusal_stands_under_another_one(self):
        self.assertEqual(len(set(REFUSALS)), 5)
        for one in REFUSALS:
            for other in REFUSALS:
                self.assertEqual(issubclass(one, other), one is other)

    def test_each_is_named_and_placed_as_the_interface_says(self):
        for refusal in REFUSALS + (errors.HeatError,):
            self.assertEqual(refusal.__module__, "warmshare.errors")
            self.assertIs(getattr(errors, refusal.__name__), refusal)

    def test_each_can_be_raised_with_free_words(self):
        for refusal in REFUSALS:
            with self.assertRaises(errors.HeatError):
                raise refusal("why")


if __name__ == "__main__":
    unittest.main()
