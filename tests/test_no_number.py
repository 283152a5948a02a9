import unittest

from beltboxes.checks import check_of
from beltboxes.errors import BeltError, NoNumber
from beltboxes.signs import escaped
from tests.words import ABOVE, BELOW, named


def places_for(stranger):
    return (
        [stranger],
        [stranger, 125, 126],
        [125, stranger, 126],
        [125, 126, stranger],
        [0, 255, stranger, 255, 0],
        [stranger] * 3,
        [stranger] + [1] * 4999,
        [1] * 2500 + [stranger] + [1] * 2499,
        [1] * 4999 + [stranger],
    )


class Refusals(unittest.TestCase):
    def test_numbers_that_no_belt_has(self):
        for function in (escaped, check_of):
            for stranger in BELOW + ABOVE:
                for row, numbers in enumerate(places_for(stranger)):
                    with self.subTest(function=function.__name__, stranger=named(stranger), row=row):
                        before = list(numbers)
                        with self.assertRaises(NoNumber) as caught:
                            function(numbers)
                        self.assertIs(type(caught.exception), NoNumber)
                        self.assertIsInstance(caught.exception, BeltError)
                        self.assertIsInstance(caught.exception, ValueError)
                        self.assertTrue(numbers == before)

    def test_below_and_above_do_not_make_up_for_each_other(self):
        for function in (escaped, check_of):
            for numbers in ([-1, 256], [256, -1], [-1, 1], [256, -256]):
                with self.subTest(function=function.__name__, numbers=numbers):
                    with self.assertRaises(NoNumber):
                        function(numbers)

    def test_numbers_that_a_belt_has(self):
        for function in (escaped, check_of):
            for numbers in ([], [0], [255], [0, 255], [255, 0, 255], list(range(256)), [255] * 6000):
                with self.subTest(function=function.__name__, length=len(numbers)):
                    function(numbers)


if __name__ == "__main__":
    unittest.main()
