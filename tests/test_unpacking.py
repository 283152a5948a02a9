import copy
import itertools
import random
import unittest

from beltboxes.unpacking import faults, unpacked, waiting
from tests.words import assert_same, unpacked_words

FAULT = ("fault", "cut", 3)


def belt_of(*boxes):
    """The boxes as told of a belt, each ten places long, with the beginning at 10, 20 and so on."""
    return [("box", label, numbers, 10 * row, 10 * row + 9) for row, (label, numbers) in enumerate(boxes, 1)]


class Unpacking(unittest.TestCase):
    def check(self, told, expected, waits):
        before = copy.deepcopy(told)
        answer = unpacked(told)
        assert_same(self, answer, expected)
        self.assertIs(type(answer), list)
        for one in answer:
            self.assertIs(type(one), tuple)
            if one[0] == "parcel":
                self.assertIs(type(one[2]), list)
        senders = waiting(told)
        self.assertEqual(senders, waits)
        self.assertIs(type(senders), list)
        self.assertTrue(told == before)


class Whole(Unpacking):
    def test_nothing_told(self):
        self.check([], [], [])

    def test_faults_alone(self):
        self.check([FAULT, ("fault", "end", 9)], [], [])

    def test_a_parcel_of_one_box(self):
        self.check(belt_of((11, [0, 8, 9])), [("parcel", 5, [8, 9], 19)], [])
        self.check(belt_of((11, [0])), [("parcel", 5, [], 19)], [])
        self.check(belt_of((1, [0, 0])), [("parcel", 0, [0], 19)], [])
        self.check(belt_of((255, [0, 255])), [("parcel", 127, [255], 19)], [])

    def test_a_parcel_of_several_boxes(self):
        self.check(belt_of((10, [0, 8, 9]), (11, [1, 7])), [("parcel", 5, [8, 9, 7], 29)], [])
        self.check(
            belt_of((10, [0, 8]), (10, [1, 9]), (10, [2, 7, 6]), (11, [3, 5])),
            [("parcel", 5, [8, 9, 7, 6, 5], 49)],
            [],
        )

    def test_boxes_with_a_count_alone(self):
        self.check(belt_of((10, [0]), (10, [1]), (11, [2])), [("parcel", 5, [], 39)], [])
        self.check(belt_of((10, [0]), (10, [1, 4]), (11, [2])), [("parcel", 5, [4], 39)], [])

    def test_several_parcels_of_one_sender(self):
        self.check(
            belt_of((11, [0, 1]), (10, [0, 2]), (11, [1, 3]), (11, [0, 4])),
            [("parcel", 5, [1], 19), ("parcel", 5, [2, 3], 39), ("parcel", 5, [4], 49)],
            [],
        )

    def test_a_whole_parcel_is_in_hand_no_longer(self):
        self.check(belt_of((11, [0, 1]), (11, [1, 2])), [("parcel", 5, [1], 19)], [])
        self.check(belt_of((10, [0, 1]), (11, [1, 2]), (10, [2, 3])), [("parcel", 5, [1, 2], 29)], [])

    def test_several_senders_in_turn(self):
        self.check(
            belt_of((10, [0, 1]), (12, [0, 2]), (255, [0, 3]), (13, [1, 4]), (0, [0, 5]), (11, [1, 6]), (1, [1, 7])),
            [("parcel", 127, [3], 39), ("parcel", 6, [2, 4], 49), ("parcel", 5, [1, 6], 69), ("parcel", 0, [5, 7], 79)],
            [],
        )

    def test_every_label(self):
        for label in range(256):
            told = belt_of((label, [0, 9]))
            if label % 2:
                self.check(told, [("parcel", label // 2, [9], 19)], [])
            else:
                self.check(told, [], [label // 2])

    def test_faults_among_the_boxes(self):
        boxes = belt_of((10, [0, 8, 9]), (11, [1, 7]), (11, [0]))
        told = [FAULT, boxes[0], FAULT, ("fault", "check", 17), boxes[1], FAULT, boxes[2], ("fault", "end", 50)]
        self.check(told, [("parcel", 5, [8, 9, 7], 29), ("parcel", 5, [], 39)], [])

    def test_250_boxes_and_more(self):
        for many in (250, 255, 256):
            boxes = [(10, [count, count]) for count in range(many - 1)] + [(11, [many - 1, 7])]
            self.check(belt_of(*boxes), [("parcel", 5, list(range(many - 1)) + [7], 10 * many + 9)], [])

    def test_behind_256_boxes_no_count_is_due(self):
        boxes = belt_of(*[(10, [count]) for count in range(256)])
        self.check(boxes, [], [5])
        for count in (1, 2, 255):
            self.check(boxes + [("box", 11, [count], 2570, 2579)], [("lost", 5, 2570)], [])
        self.check(boxes + [("box", 11, [0], 2570, 2579)], [("lost", 5, 2570), ("parcel", 5, [], 2579)], [])


class WithoutParcelInHand(Unpacking):
    def test_an_empty_box(self):
        self.check(belt_of((10, [])), [], [])
        self.check(belt_of((11, [])), [], [])

    def test_a_count_that_is_not_0(self):
        for count in (1, 2, 7, 255):
            for label in (10, 11):
                self.check(belt_of((label, [count, 9])), [], [])
                self.check(belt_of((label, [count])), [], [])

    def test_the_count_0_with_an_even_label(self):
        self.check(belt_of((10, [0, 8])), [], [5])

    def test_behind_a_box_that_was_passed_over_nothing_is_due(self):
        self.check(belt_of((10, [1, 8]), (11, [2, 9])), [], [])
        self.check(belt_of((10, [1, 8]), (11, [1, 9])), [], [])
        self.check(belt_of((10, []), (11, [1, 9])), [], [])


class WithParcelInHand(Unpacking):
    def test_an_empty_box(self):
        for label in (10, 11):
            self.check(belt_of((10, [0, 8]), (label, [])), [("lost", 5, 20)], [])
            self.check(belt_of((10, [0, 8]), (10, [1, 8]), (label, [])), [("lost", 5, 30)], [])

    def test_a_count_that_is_not_due(self):
        for label in (10, 11):
            for count in (2, 3, 255):
                self.check(belt_of((10, [0, 8]), (label, [count, 9])), [("lost", 5, 20)], [])
            for count in (1, 3, 255):
                self.check(belt_of((10, [0, 8]), (10, [1, 8]), (label, [count, 9])), [("lost", 5, 30)], [])

    def test_a_parcel_is_lost_once(self):
        self.check(belt_of((10, [0, 8]), (10, [2, 9]), (10, [3, 9]), (11, [4, 9])), [("lost", 5, 20)], [])
        self.check(belt_of((10, [0, 8]), (10, []), (10, []), (11, [1])), [("lost", 5, 20)], [])
        self.check(belt_of((10, [0, 8]), (10, [2]), (11, [1])), [("lost", 5, 20)], [])

    def test_a_count_of_0_in_the_middle(self):
        self.check(belt_of((10, [0, 8]), (10, [0, 9])), [("lost", 5, 20)], [5])
        self.check(
            belt_of((10, [0, 8]), (10, [1, 7]), (10, [0, 9]), (11, [1, 6])),
            [("lost", 5, 30), ("parcel", 5, [9, 6], 49)],
            [],
        )
        self.check(belt_of((10, [0, 8]), (10, [0, 9]), (11, [2, 6])), [("lost", 5, 20), ("lost", 5, 30)], [])
        self.check(belt_of((10, [0, 1]), (10, [0, 2]), (10, [0, 3])), [("lost", 5, 20), ("lost", 5, 30)], [5])

    def test_an_odd_label_with_the_count_0(self):
        self.check(belt_of((10, [0, 8]), (11, [0, 9])), [("lost", 5, 20), ("parcel", 5, [9], 29)], [])
        self.check(belt_of((10, [0, 8]), (11, [0])), [("lost", 5, 20), ("parcel", 5, [], 29)], [])
        self.check(
            belt_of((10, [0, 8]), (10, [1, 8]), (11, [0, 9]), (11, [2, 7])),
            [("lost", 5, 30), ("parcel", 5, [9], 39)],
            [],
        )

    def test_the_count_that_is_due_with_an_even_label(self):
        self.check(belt_of((10, [0, 8]), (10, [1, 9])), [], [5])

    def test_other_senders_are_not_lost(self):
        for numbers in ([], [2, 9], [0]):
            lost = [("lost", 5, 40)]
            self.check(
                belt_of((10, [0, 8]), (12, [0, 7]), (8, [0, 6]), (10, numbers), (13, [1, 5]), (9, [1, 4])),
                lost + [("parcel", 6, [7, 5], 59), ("parcel", 4, [6, 4], 69)],
                [5] if numbers == [0] else [],
            )

    def test_another_senders_boxes_are_not_taken_for_ones_own(self):
        self.check(belt_of((10, [0, 8]), (13, [1, 9])), [], [5])
        self.check(belt_of((10, [0, 8]), (9, [1, 9])), [], [5])
        self.check(belt_of((10, [0, 8]), (12, [])), [], [5])

    def test_places_are_those_of_the_boxes(self):
        told = [("box", 10, [0, 1], 3, 17), ("box", 10, [2], 18, 40), ("box", 11, [0, 2], 77, 91)]
        self.check(told, [("lost", 5, 18), ("parcel", 5, [2], 91)], [])


class Waiting(Unpacking):
    def test_from_the_least_on(self):
        boxes = [(label, [0]) for label in (254, 0, 20, 6, 100, 2, 4)]
        self.check(belt_of(*boxes), [], [0, 1, 2, 3, 10, 50, 127])
        for order in itertools.permutations([(10, [0]), (200, [0]), (4, [0]), (0, [0])]):
            self.check(belt_of(*order), [], [0, 2, 5, 100])

    def test_all_senders(self):
        self.check(belt_of(*[(label, [0]) for label in range(254, -2, -2)]), [], list(range(128)))

    def test_only_those_in_hand_at_the_end(self):
        told = belt_of((10, [0]), (12, [0]), (14, [0]), (16, [0]), (13, [1]), (14, [5]), (16, [0]), (16, [1]))
        self.check(told, [("parcel", 6, [], 59), ("lost", 7, 60), ("lost", 8, 70)], [5, 8])

    def test_each_once(self):
        self.check(belt_of((10, [0]), (10, [1]), (10, [2])), [], [5])


class Faults(unittest.TestCase):
    def check(self, told, expected):
        before = copy.deepcopy(told)
        answer = faults(told)
        self.assertEqual(answer, expected)
        self.assertIs(type(answer), list)
        for one in answer:
            self.assertIs(type(one), tuple)
        self.assertEqual(told, before)

    def test_none(self):
        self.check([], [])
        self.check(belt_of((10, [0]), (11, [1])), [])

    def test_each_word(self):
        words = ("cut", "stray", "escape", "great", "check", "end")
        for word in words:
            self.check([("fault", word, 7)], [(word, 7)])
        self.check([("fault", word, place) for place, word in enumerate(words)], [
            ("cut", 0), ("stray", 1), ("escape", 2), ("great", 3), ("check", 4), ("end", 5),
        ])

    def test_in_order_among_boxes(self):
        boxes = belt_of((10, [0]), (11, [1]))
        told = [("fault", "stray", 0), boxes[0], ("fault", "cut", 22), ("fault", "check", 30), boxes[1], FAULT]
        self.check(told, [("stray", 0), ("cut", 22), ("check", 30), ("cut", 3)])

    def test_same_words_again(self):
        self.check([("fault", "cut", 1), ("fault", "cut", 2), FAULT], [("cut", 1), ("cut", 2), ("cut", 3)])


class HandedIn(unittest.TestCase):
    def test_what_is_given_back_is_apart(self):
        told = belt_of((10, [0, 8]), (11, [1, 9]), (11, [0, 7]), (11, [0]))
        before = copy.deepcopy(told)
        for one in unpacked(told):
            one[2].append(77)
        unpacked(told).append(77)
        waiting(told).append(77)
        faults(told).append(77)
        self.assertEqual(told, before)
        self.assertEqual(
            unpacked(told), [("parcel", 5, [8, 9], 29), ("parcel", 5, [7], 39), ("parcel", 5, [], 49)]
        )
        unpacked([]).append(77)
        waiting([]).append(77)
        faults([]).append(77)
        self.assertEqual((unpacked([]), waiting([]), faults([])), ([], [], []))

    def test_arguments_by_name(self):
        told = belt_of((10, [0, 8])) + [FAULT]
        self.assertEqual(unpacked(told=told), [])
        self.assertEqual(waiting(told=told), [5])
        self.assertEqual(faults(told=told), [("cut", 3)])


class ByTheWords(Unpacking):
    def by_words(self, told):
        self.check(told, *unpacked_words(told))

    def test_all_short_rows_of_one_sender(self):
        choice = ((10, []), (11, []), (10, [0, 4]), (11, [0, 5]), (10, [1, 6]), (11, [1, 7]), (10, [2, 8]), (11, [2]))
        for length in range(4):
            for boxes in itertools.product(choice, repeat=length):
                self.by_words(belt_of(*boxes))

    def test_rows_by_chance(self):
        chance = random.Random(6)
        for row in range(1500):
            told = []
            due = {}
            for place in range(chance.randrange(25)):
                sender = chance.choice((0, 1, 2, 127))
                count = chance.choice([due.get(sender, 0)] * 6 + [0, 1, 2, 3, 255])
                due[sender] = count + 1
                numbers = chance.choice([[count, chance.randrange(256)]] * 5 + [[count], []])
                label = 2 * sender + chance.choice((0, 0, 0, 1))
                if label % 2:
                    due[sender] = 0
                told.append(chance.choice([("box", label, numbers, 9 * place, 9 * place + 8)] * 6 + [FAULT]))
            self.by_words(told)


if __name__ == "__main__":
    unittest.main()
