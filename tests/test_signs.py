import itertools
import unittest

from beltboxes.signs import escaped
from tests.words import assert_same


def read_back(signs):
    """What the signs stand for, by point 3 of the document."""
    numbers = []
    rest = list(signs)
    while rest:
        number = rest.pop(0)
        if number == 125:
            number = {1: 125, 2: 126}[rest.pop(0)]
        numbers.append(number)
    return numbers


class Escaped(unittest.TestCase):
    def check(self, numbers, expected):
        answer = escaped(numbers)
        assert_same(self, answer, expected)
        self.assertIs(type(answer), list)

    def test_none(self):
        self.check([], [])

    def test_numbers_without_escapes(self):
        self.check([7], [7])
        self.check([3, 4, 250], [3, 4, 250])
        self.check([1, 2, 1, 2], [1, 2, 1, 2])

    def test_the_two_alone(self):
        self.check([125], [125, 1])
        self.check([126], [125, 2])

    def test_side_by_side(self):
        self.check([125, 126], [125, 1, 125, 2])
        self.check([126, 125], [125, 2, 125, 1])
        self.check([125, 125], [125, 1, 125, 1])
        self.check([126, 126, 126], [125, 2, 125, 2, 125, 2])
        self.check([126, 125, 125, 126], [125, 2, 125, 1, 125, 1, 125, 2])

    def test_what_looks_like_an_escape_already(self):
        self.check([125, 1], [125, 1, 1])
        self.check([125, 2], [125, 1, 2])
        self.check([126, 2], [125, 2, 2])

    def test_first_middle_and_last(self):
        self.check([125, 9, 8], [125, 1, 9, 8])
        self.check([9, 126, 8], [9, 125, 2, 8])
        self.check([9, 8, 125], [9, 8, 125, 1])
        self.check([0, 1, 1, 126, 128, 131], [0, 1, 1, 125, 2, 128, 131])

    def test_least_and_greatest(self):
        self.check([0], [0])
        self.check([255], [255])
        self.check([0, 255, 0], [0, 255, 0])

    def test_neighbours_of_the_two(self):
        self.check([124], [124])
        self.check([127], [127])
        self.check([124, 125, 126, 127], [124, 125, 1, 125, 2, 127])

    def test_every_number_alone(self):
        for number in range(256):
            if number not in (125, 126):
                with self.subTest(number=number):
                    self.check([number], [number])

    def test_all_numbers_in_a_row(self):
        self.check(
            list(range(256)),
            list(range(125)) + [125, 1, 125, 2] + list(range(127, 256)),
        )

    def test_long_lists(self):
        self.check([125, 126] * 2500, [125, 1, 125, 2] * 2500)
        self.check([124, 127] * 2500, [124, 127] * 2500)
        self.check([126] * 6000, [125, 2] * 6000)

    def test_read_back_it_is_what_was_handed_in(self):
        choice = (0, 1, 2, 124, 125, 126, 127, 255)
        for length in range(5):
            for numbers in itertools.product(choice, repeat=length):
                signs = escaped(list(numbers))
                self.assertNotIn(126, signs)
                self.assertEqual(read_back(signs), list(numbers))

    def test_what_is_handed_in_stays(self):
        for numbers in ([], [1, 2], [125, 126, 0, 255], [126] * 3000):
            before = list(numbers)
            answer = escaped(numbers)
            self.assertTrue(numbers == before)
            answer.append(77)
            self.assertTrue(numbers == before)

    def test_answers_of_two_calls_are_apart(self):
        for numbers in ([], [125], [126], [9]):
            first = escaped(numbers)
            first.append(77)
            self.assertNotEqual(escaped(numbers), first)

    def test_argument_by_name(self):
        self.assertEqual(escaped(numbers=[125]), [125, 1])


if __name__ == "__main__":
    unittest.main()
