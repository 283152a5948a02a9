import copy
import unittest

from beltboxes.errors import BeltError, NoParcel
from beltboxes.parcels import boxes_of, mixed, sent
from beltboxes.writing import written
from tests.words import ABOVE, BELOW, assert_same, named, written_words

MANY_FIGURES = (10**30, 2**64, 10**5000)


class BoxesOf(unittest.TestCase):
    def check(self, parcel, many, expected):
        before = copy.deepcopy(parcel)
        boxes = boxes_of(parcel, many)
        assert_same(self, boxes, expected)
        self.assertIs(type(boxes), list)
        for box in boxes:
            self.assertIs(type(box), tuple)
            self.assertIs(type(box[1]), list)
        self.assertTrue(parcel == before)

    def test_no_numbers(self):
        for many in (1, 2, 300):
            self.check((5, []), many, [(11, [0])])

    def test_just_one_box(self):
        self.check((5, [8]), 1, [(11, [0, 8])])
        self.check((5, [8]), 2, [(11, [0, 8])])
        self.check((5, [8, 9, 7]), 3, [(11, [0, 8, 9, 7])])
        self.check((5, [8, 9, 7]), 4, [(11, [0, 8, 9, 7])])

    def test_several_boxes(self):
        self.check((5, [8, 9, 7]), 1, [(10, [0, 8]), (10, [1, 9]), (11, [2, 7])])
        self.check((5, [8, 9, 7]), 2, [(10, [0, 8, 9]), (11, [1, 7])])
        self.check((5, [0, 255, 125, 126, 1]), 2, [(10, [0, 0, 255]), (10, [1, 125, 126]), (11, [2, 1])])

    def test_just_so_many_as_fill_its_boxes(self):
        self.check((1, [1, 2, 3, 4]), 2, [(2, [0, 1, 2]), (3, [1, 3, 4])])
        self.check((1, [1, 2, 3, 4, 5, 6]), 3, [(2, [0, 1, 2, 3]), (3, [1, 4, 5, 6])])

    def test_one_more_and_one_less(self):
        self.check((1, [1, 2, 3, 4, 5]), 2, [(2, [0, 1, 2]), (2, [1, 3, 4]), (3, [2, 5])])
        self.check((1, [1, 2, 3]), 2, [(2, [0, 1, 2]), (3, [1, 3])])
        self.check((1, [1, 2, 3, 4, 5, 6, 7]), 3, [(2, [0, 1, 2, 3]), (2, [1, 4, 5, 6]), (3, [2, 7])])
        self.check((1, [1, 2, 3, 4, 5]), 3, [(2, [0, 1, 2, 3]), (3, [1, 4, 5])])

    def test_each_sender(self):
        for sender in range(128):
            self.check((sender, [4, 5]), 1, [(2 * sender, [0, 4]), (2 * sender + 1, [1, 5])])
        self.check((0, []), 1, [(1, [0])])
        self.check((127, []), 1, [(255, [0])])
        self.check((127, [9, 9]), 1, [(254, [0, 9]), (255, [1, 9])])

    def test_each_length_and_room(self):
        for length in range(1, 30):
            numbers = [place * 9 % 256 for place in range(length)]
            for many in range(1, 35):
                boxes = boxes_of((3, numbers), many)
                self.assertEqual([box[1][0] for box in boxes], list(range(len(boxes))))
                self.assertEqual(sum([box[1][1:] for box in boxes], []), numbers)
                self.assertEqual([box[0] for box in boxes], [6] * (len(boxes) - 1) + [7])
                self.assertEqual([len(box[1]) - 1 for box in boxes[:-1]], [many] * (len(boxes) - 1))
                self.assertIn(len(boxes[-1][1]) - 1, range(1, many + 1))

    def test_250_boxes(self):
        numbers = [place % 256 for place in range(500)]
        ones = [(4, [count, count]) for count in range(249)] + [(5, [249, 249])]
        self.check((2, numbers[:250]), 1, ones)
        twos = [(4, [count, *numbers[2 * count : 2 * count + 2]]) for count in range(249)]
        self.check((2, numbers[:499]), 2, twos + [(5, [249, 498 - 256])])
        self.check((2, numbers[:500]), 2, twos + [(5, [249, 498 - 256, 499 - 256])])

    def test_long_parcels(self):
        numbers = [place % 256 for place in range(400)]
        for length in (299, 300, 301, 400):
            self.check((2, numbers[:length]), 400, [(5, [0] + numbers[:length])])
            self.check((2, numbers[:length]), 200, [(4, [0] + numbers[:200]), (5, [1] + numbers[200:length])])

    def test_room_of_many_figures(self):
        for many in MANY_FIGURES:
            with self.subTest(many=named(many)):
                self.check((5, []), many, [(11, [0])])
                self.check((5, [8, 9, 7]), many, [(11, [0, 8, 9, 7])])
                self.check((5, [1] * 300), many, [(11, [0] + [1] * 300)])

    def test_what_is_given_back_is_apart(self):
        for many in (1, 3, 10):
            numbers = [1, 2, 3]
            boxes = boxes_of((5, numbers), many)
            boxes[0][1].append(77)
            boxes.append(77)
            self.assertEqual(numbers, [1, 2, 3])
        boxes_of((5, []), 3)[0][1].append(77)
        self.assertEqual(boxes_of((5, []), 3), [(11, [0])])

    def test_arguments_by_name(self):
        self.assertEqual(boxes_of(parcel=(5, [8]), many=1), [(11, [0, 8])])


class Mixed(unittest.TestCase):
    def check(self, parcels, many, expected):
        before = copy.deepcopy(parcels)
        boxes = mixed(parcels, many)
        assert_same(self, boxes, expected)
        self.assertIs(type(boxes), list)
        numbers = sent(parcels, many)
        self.assertIs(type(numbers), list)
        self.assertTrue(numbers == written_words(expected))
        self.assertTrue(numbers == written(boxes))
        self.assertTrue(parcels == before)

    def test_none(self):
        self.check([], 1, [])
        self.check([], 10**5000, [])

    def test_one(self):
        self.check([(5, [8, 9, 7])], 2, [(10, [0, 8, 9]), (11, [1, 7])])
        self.check([(5, [])], 2, [(11, [0])])

    def test_of_like_lengths(self):
        self.check(
            [(5, [1, 2]), (4, [3, 4])],
            1,
            [(10, [0, 1]), (8, [0, 3]), (11, [1, 2]), (9, [1, 4])],
        )

    def test_of_unlike_lengths(self):
        self.check(
            [(5, [1]), (9, [2, 3, 4, 5, 6]), (0, []), (127, [7, 8, 9])],
            2,
            [
                (11, [0, 1]), (18, [0, 2, 3]), (1, [0]), (254, [0, 7, 8]),
                (18, [1, 4, 5]), (255, [1, 9]),
                (19, [2, 6]),
            ],
        )
        self.check(
            [(9, [2, 3, 4]), (5, [1]), (3, [7, 8])],
            1,
            [(18, [0, 2]), (11, [0, 1]), (6, [0, 7]), (18, [1, 3]), (7, [1, 8]), (19, [2, 4])],
        )

    def test_the_order_is_that_of_the_parcels(self):
        self.check([(5, []), (4, []), (126, []), (0, [])], 1, [(11, [0]), (9, [0]), (253, [0]), (1, [0])])

    def test_six_and_more(self):
        for many in (6, 7, 9):
            parcels = [(sender, [sender] * sender) for sender in range(many)]
            rows = [boxes_of(parcel, 2) for parcel in parcels]
            expected = [row[count] for count in range(10) for row in rows if count < len(row)]
            self.check(parcels, 2, expected)

    def test_long_ones(self):
        parcels = [(sender, [sender] * 300) for sender in (125, 63, 62, 0)]
        rows = [boxes_of(parcel, 2) for parcel in parcels]
        self.check(parcels, 2, [box for four in zip(*rows) for box in four])
        self.check([(5, [1] * 250), (6, [])], 1, [(10, [0, 1]), (13, [0])] + boxes_of((5, [1] * 250), 1)[1:])

    def test_sent_by_hand(self):
        self.assertEqual(sent([], 1), [])
        self.assertEqual(sent([(0, [])], 1), [126, 0, 1, 1, 0, 2, 5])
        self.assertEqual(
            sent([(63, []), (62, [126])], 1),
            [126, 0, 1, 127, 0, 128, 1, 126, 0, 2, 125, 1, 0, 125, 2, 253, 253],
        )

    def test_room_of_many_figures(self):
        for many in MANY_FIGURES:
            with self.subTest(many=named(many)):
                self.check([(5, [1, 2]), (6, [])], many, [(11, [0, 1, 2]), (13, [0])])

    def test_what_is_given_back_is_apart(self):
        numbers = [1, 2, 3]
        parcels = [(5, numbers)]
        for box in mixed(parcels, 5):
            box[1].append(77)
        sent(parcels, 5).append(77)
        self.assertEqual(parcels, [(5, [1, 2, 3])])
        mixed([], 5).append(77)
        self.assertEqual(mixed([], 5), [])

    def test_arguments_by_name(self):
        self.assertEqual(mixed(parcels=[(5, [8])], many=1), [(11, [0, 8])])
        self.assertEqual(sent(parcels=[(0, [])], many=1), [126, 0, 1, 1, 0, 2, 5])


def wrong_parcels():
    for stranger in BELOW + ABOVE:
        yield named(stranger), (1, [stranger]), 3
        yield named(stranger), (1, [stranger, 125, 126]), 3
        yield named(stranger), (1, [0, stranger, 255]), 3
        yield named(stranger), (1, [0, 1, 2, 3, 4, stranger]), 3
        yield named(stranger), (1, [7] * 299 + [stranger]), 3
        yield named(stranger), (stranger, []), 3
        yield named(stranger), (stranger, [stranger]), 3
    for stranger in (128, 129, 254, 255):
        yield stranger, (stranger, []), 3
        yield stranger, (stranger, [1, 2, 3, 4]), 3
    yield "251 boxes", (1, [0] * 251), 1
    yield "251 boxes", (1, [0] * 501), 2
    yield "256 boxes", (1, [0] * 256), 1
    yield "300 boxes", (1, [0] * 300), 1


class Refusals(unittest.TestCase):
    def refused(self, function, *arguments):
        before = copy.deepcopy(arguments[0])
        with self.assertRaises(NoParcel) as caught:
            function(*arguments)
        self.assertIs(type(caught.exception), NoParcel)
        self.assertIsInstance(caught.exception, BeltError)
        self.assertTrue(arguments[0] == before)

    def test_boxes_of(self):
        for name, parcel, many in wrong_parcels():
            with self.subTest(name=name):
                self.refused(boxes_of, parcel, many)

    def test_mixed_and_sent_with_one_at_any_place(self):
        good = [(20, [1, 2, 3, 4]), (21, []), (22, [125, 126])]
        for name, parcel, many in wrong_parcels():
            for place in range(4):
                with self.subTest(name=name, place=place):
                    parcels = good[:place] + [parcel] + good[place:]
                    self.refused(mixed, parcels, many)
                    self.refused(sent, parcels, many)

    def test_mixed_and_sent_with_that_one_alone_or_twice(self):
        for name, parcel, many in wrong_parcels():
            with self.subTest(name=name):
                for function in (mixed, sent):
                    self.refused(function, [parcel], many)
                    self.refused(function, [parcel, parcel], many)
                    self.refused(function, [(1, [5]), parcel, (1, [6])], many)

    def test_no_room(self):
        for many in (0, -1, -2, -300, -(10**30), -(10**5000)):
            for numbers in ([], [1], [1, 2, 3], [0] * 300):
                with self.subTest(many=named(many), length=len(numbers)):
                    self.refused(boxes_of, (1, numbers), many)
                    self.refused(mixed, [(1, numbers)], many)
                    self.refused(sent, [(1, numbers), (2, [])], many)

    def test_no_room_for_no_parcels(self):
        for many in (0, -1, -(10**5000)):
            self.refused(mixed, [], many)
            self.refused(sent, [], many)

    def test_all_wrong_at_once(self):
        self.refused(boxes_of, (-1, [256] * 251), 0)
        self.refused(mixed, [(128, [-1])], -1)
        self.refused(boxes_of, (-(10**5000), [10**5000]), -(10**5000))

    def test_edges_that_are_not_refused(self):
        for parcel, many in (((0, [0, 255]), 1), ((127, [255, 0]), 1), ((1, [0] * 250), 1), ((1, [0] * 750), 3)):
            boxes_of(parcel, many)
            mixed([parcel], many)
            sent([parcel], many)


if __name__ == "__main__":
    unittest.main()
