import copy
import itertools
import unittest

from beltboxes.errors import BeltError, NoBox
from beltboxes.writing import written
from tests.words import ABOVE, BELOW, assert_same, named, written_words


class Written(unittest.TestCase):
    def check(self, boxes, expected):
        before = copy.deepcopy(boxes)
        answer = written(boxes)
        assert_same(self, answer, expected)
        self.assertIs(type(answer), list)
        self.assertTrue(boxes == before)

    def test_the_documents_own(self):
        self.check([(1, [126])], [126, 0, 1, 1, 125, 2, 128, 131])

    def test_no_box(self):
        self.check([], [])

    def test_a_box_without_numbers(self):
        self.check([(0, [])], [126, 0, 0, 0, 0, 0])
        self.check([(7, [])], [126, 0, 0, 7, 7, 7])
        self.check([(255, [])], [126, 0, 0, 255, 255, 255])

    def test_ordinary_boxes(self):
        # The sums of 0, 3, 9, 3, 4, 250: 0, 3, 12, 15, 19, 269; all of them make 318.
        self.check([(9, [3, 4, 250])], [126, 0, 3, 9, 3, 4, 250, 13, 62])
        self.check([(0, [0])], [126, 0, 1, 0, 0, 1, 3])
        self.check([(255, [255])], [126, 0, 1, 255, 255, 255, 0])

    def test_several_boxes(self):
        self.check([(7, []), (7, [])], [126, 0, 0, 7, 7, 7] * 2)
        self.check(
            [(9, [3, 4, 250]), (1, [126]), (0, [])],
            [126, 0, 3, 9, 3, 4, 250, 13, 62, 126, 0, 1, 1, 125, 2, 128, 131, 126, 0, 0, 0, 0, 0],
        )

    def test_125_and_126_as_label(self):
        self.check([(125, [])], [126, 0, 0, 125, 1, 125, 1, 125, 1])
        self.check([(126, [])], [126, 0, 0, 125, 2, 125, 2, 125, 2])
        self.check([(125, [0])], [126, 0, 1, 125, 1, 0, 125, 2, 253])

    def test_125_and_126_as_numbers(self):
        self.check([(0, [125])], [126, 0, 1, 0, 125, 1, 125, 2, 128])
        self.check([(1, [125, 126])], [126, 0, 2, 1, 125, 1, 125, 2, 254, 131])
        self.check([(1, [126, 125])], [126, 0, 2, 1, 125, 2, 125, 1, 254, 132])
        self.check([(1, [125, 1, 125, 2])], written_words([(1, [125, 1, 125, 2])]))

    def test_124_and_127_are_numbers_like_others(self):
        self.check([(124, [127])], [126, 0, 1, 124, 127, 252, 122])
        self.check([(127, [124])], [126, 0, 1, 127, 124, 252, 125, 1])

    def test_125_and_126_in_the_length(self):
        # The length comes first among the sums: 125 noughts behind it make 125 and 127 times 125.
        self.check([(0, [0] * 125)], [126, 0, 125, 1] + [0] * 126 + [125, 1, 127 * 125 % 256])
        self.check([(0, [0] * 126)], [126, 0, 125, 2] + [0] * 127 + [125, 2, 128 * 126 % 256])
        self.check([(0, [0] * 127)], [126, 0, 127] + [0] * 128 + [127, 129 * 127 % 256])

    def test_125_and_126_as_second_of_the_length_behind_256(self):
        for many in (256 + 125, 256 + 126):
            self.check([(3, [9] * many)], written_words([(3, [9] * many)]))
            self.assertEqual(written([(3, [9] * many)])[:4], [126, 1, 125, many - 256 - 124])

    def test_125_and_126_as_check_numbers(self):
        self.check([(25, [99])], [126, 0, 1, 25, 99, 125, 1, 152])
        self.check([(25, [100])], [126, 0, 1, 25, 100, 125, 2, 153])
        # The second one alone: the sums of 0, 1, 61 and 0 on the way are 0, 1, 62 and 62, which make 125.
        self.check([(61, [0])], [126, 0, 1, 61, 0, 62, 125, 1])
        self.check([(61, [1])], [126, 0, 1, 61, 1, 63, 125, 2])

    def test_both_check_numbers_by_escapes(self):
        self.check([(0, [124])], [126, 0, 1, 0, 124, 125, 1, 127])
        for label, numbers in ((125, []), (126, [])):
            signs = written([(label, numbers)])
            self.assertEqual(signs[-4:], [125, label - 124] * 2)

    def test_length_in_two_numbers(self):
        for many in (254, 255, 256, 257, 258, 259, 511, 512, 1999, 2000, 2001, 3000):
            with self.subTest(many=many):
                numbers = [place * 7 % 256 for place in range(many)]
                self.check([(5, numbers)], written_words([(5, numbers)]))
                self.assertEqual(written([(5, numbers)])[:4], [126, many // 256, many % 256, 5])

    def test_lengths_by_hand(self):
        self.check([(0, [0] * 255)], [126, 0, 255] + [0] * 256 + [255, 255 * 257 % 256])
        self.check([(0, [0] * 256)], [126, 1, 0] + [0] * 257 + [1, 259 % 256])
        self.check([(0, [0] * 257)], [126, 1, 1] + [0] * 258 + [2, (1 + 2 * 259) % 256])
        self.check([(0, [0] * 2000)], [126, 7, 208] + [0] * 2001 + [215, (7 + 215 * 2002) % 256])

    def test_every_label_and_every_number(self):
        for number in range(256):
            boxes = [(number, [number]), (number, []), (0, [number, 255 - number])]
            self.check(boxes, written_words(boxes))

    def test_small_boxes_by_the_words(self):
        choice = (0, 1, 2, 124, 125, 126, 127, 255)
        for length in range(4):
            for label, *numbers in itertools.product(choice, repeat=length + 1):
                self.check([(label, numbers)], written_words([(label, numbers)]))

    def test_many_boxes(self):
        boxes = [(many, [126] * many) for many in range(70)]
        self.check(boxes, written_words(boxes))

    def test_each_box_is_written_as_if_it_were_alone(self):
        boxes = [(1, [126]), (125, []), (2, [5] * 260), (1, [126])]
        self.check(boxes, sum((written([box]) for box in boxes), []))

    def test_what_is_given_back_is_apart(self):
        boxes = [(1, [2])]
        first = written(boxes)
        first.append(77)
        self.assertEqual(boxes, [(1, [2])])
        self.assertEqual(written(boxes), [126, 0, 1, 1, 2, 4, 7])
        written([]).append(77)
        self.assertEqual(written([]), [])

    def test_argument_by_name(self):
        self.assertEqual(written(boxes=[(0, [])]), [126, 0, 0, 0, 0, 0])


def boxes_with(stranger):
    good = (1, [2, 3])
    wrong = [
        (stranger, []),
        (stranger, [0, 255]),
        (stranger, [stranger]),
        (5, [stranger]),
        (5, [stranger, 125, 126]),
        (5, [125, stranger, 126]),
        (5, [125, 126, stranger]),
        (5, [1] * 1999 + [stranger]),
    ]
    for box in wrong:
        yield [box]
        yield [box, good, good]
        yield [good, box, good]
        yield [good, (2, []), box]
        yield [box, box]


class Refusals(unittest.TestCase):
    def test_what_is_no_box(self):
        for stranger in BELOW + ABOVE:
            for row, boxes in enumerate(boxes_with(stranger)):
                with self.subTest(stranger=named(stranger), row=row):
                    before = copy.deepcopy(boxes)
                    with self.assertRaises(NoBox) as caught:
                        written(boxes)
                    self.assertIs(type(caught.exception), NoBox)
                    self.assertIsInstance(caught.exception, BeltError)
                    self.assertTrue(boxes == before)

    def test_below_and_above_do_not_make_up_for_each_other(self):
        for boxes in ([(1, [-1, 1])], [(1, [256, -256])], [(-1, [1])], [(256, [-256])]):
            with self.subTest(boxes=boxes):
                with self.assertRaises(NoBox):
                    written(boxes)

    def test_least_and_greatest_are_not_refused(self):
        for label, number in itertools.product((0, 255), repeat=2):
            boxes = [(label, [number]), (label, [number] * 3), (label, [0, 255, number])]
            self.assertEqual(written(boxes), written_words(boxes))


if __name__ == "__main__":
    unittest.main()
