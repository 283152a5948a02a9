import unittest

from beltboxes.errors import BeltError, NoBox, NoNumber, NoParcel

REFUSALS = (NoNumber, NoBox, NoParcel)


class ErrorClasses(unittest.TestCase):
    def test_names(self):
        names = [error.__name__ for error in (BeltError,) + REFUSALS]
        self.assertEqual(names, ["BeltError", "NoNumber", "NoBox", "NoParcel"])

    def test_belt_error_stands_under_value_error(self):
        self.assertEqual(BeltError.__bases__, (ValueError,))

    def test_each_refusal_stands_under_belt_error(self):
        for refusal in REFUSALS:
            with self.subTest(refusal=refusal.__name__):
                self.assertEqual(refusal.__bases__, (BeltError,))

    def test_no_number_is_a_belt_error_and_a_value_error(self):
        error = NoNumber("words")
        self.assertIsInstance(error, BeltError)
        self.assertIsInstance(error, ValueError)

    def test_no_refusal_is_another_one(self):
        for one in REFUSALS:
            for other in REFUSALS:
                with self.subTest(one=one.__name__, other=other.__name__):
                    self.assertEqual(issubclass(one, other), one == other)

    def test_each_can_be_raised_and_taken_by_its_own_name(self):
        for error in (BeltError,) + REFUSALS:
            for base in (error, BeltError, ValueError):
                with self.subTest(error=error.__name__, base=base.__name__):
                    with self.assertRaises(base):
                        raise error("words")


if __name__ == "__main__":
    unittest.main()
