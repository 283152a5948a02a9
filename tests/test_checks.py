import itertools
import unittest

from beltboxes.checks import check_of
from tests.words import check_words


class CheckOf(unittest.TestCase):
    def check(self, numbers, expected):
        answer = check_of(numbers)
        self.assertEqual(answer, expected)
        self.assertIs(type(answer), list)

    def test_the_documents_own(self):
        self.check([3, 4, 250], [1, 11])
        self.check([], [0, 0])
        self.check([0, 1, 1, 126], [128, 131])

    def test_one_number(self):
        for number in range(256):
            with self.subTest(number=number):
                self.check([number], [number, number])

    def test_noughts(self):
        self.check([0, 0, 0], [0, 0])
        self.check([0, 5], [5, 5])
        self.check([5, 0], [5, 10])

    def test_sums_beyond_255(self):
        self.check([255, 1], [0, 255])
        self.check([1, 255], [0, 1])
        self.check([255, 0], [255, 254])
        self.check([128, 128], [0, 128])
        self.check([127, 128], [255, 126])
        self.check([255, 255], [254, 253])
        self.check([255, 255, 255], [253, 250])

    def test_second_sum_alone_beyond_255(self):
        self.check([100, 1], [101, 201])
        self.check([128, 0], [128, 0])
        self.check([64, 0, 0, 0], [64, 0])

    def test_order_of_the_numbers(self):
        self.check([1, 2, 3], [6, 10])
        self.check([3, 2, 1], [6, 14])
        self.check([2, 1, 3], [6, 11])

    def test_the_two_of_escapes_are_numbers_like_others(self):
        self.check([125], [125, 125])
        self.check([126, 125], [251, 121])

    def test_all_numbers_in_a_row(self):
        self.check(list(range(256)), check_words(list(range(256))))

    def test_short_lists_by_the_words(self):
        choice = (0, 1, 2, 125, 126, 128, 254, 255)
        for length in range(5):
            for numbers in itertools.product(choice, repeat=length):
                self.check(list(numbers), check_words(numbers))

    def test_long_lists(self):
        # 5000 * 255 is 1275000; 255 times 1 + 2 + .. + 5000 is 3188137500.
        self.check([255] * 5000, [1275000 % 256, 3188137500 % 256])
        self.check([1] * 256, [0, 128])
        self.check([1] + [0] * 4999, [1, 5000 % 256])
        self.check([0] * 5000, [0, 0])
        mixed = [place * place % 256 for place in range(6000)]
        self.check(mixed, check_words(mixed))

    def test_a_list_of_two_is_given_back(self):
        for numbers in ([], [9], [1, 2], [255] * 5000):
            answer = check_of(numbers)
            self.assertIs(type(answer), list)
            self.assertEqual(len(answer), 2)
            for number in answer:
                self.assertIs(type(number), int)
                self.assertIn(number, range(256))

    def test_what_is_handed_in_stays(self):
        for numbers in ([], [1, 2], [3, 4, 250], [255] * 3000):
            before = list(numbers)
            answer = check_of(numbers)
            self.assertTrue(numbers == before)
            answer.append(77)
            self.assertTrue(numbers == before)

    def test_answers_of_two_calls_are_apart(self):
        first = check_of([])
        first.append(77)
        self.assertEqual(check_of([]), [0, 0])

    def test_argument_by_name(self):
        self.assertEqual(check_of(numbers=[3, 4, 250]), [1, 11])


if __name__ == "__main__":
    unittest.main()
