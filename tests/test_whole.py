"""Point 15, and what the document says of the whole: parcels that are mixed and sent are read and unpacked again."""

import copy
import random
import unittest

from beltboxes.parcels import boxes_of, mixed, sent
from beltboxes.reading import begun, ended, fed, told_by
from beltboxes.unpacking import faults, unpacked, waiting
from beltboxes.writing import written
from tests.words import assert_same, inside_words, named, on_belt

MOST = 400

LOADS = (
    [],
    [(0, [])],
    [(127, [126])],
    [(5, [1, 2, 3, 4, 5]), (9, [6]), (0, []), (127, [125, 126, 125, 126])],
    [(62, [126] * 9), (63, [125] * 10), (61, [0] * 11)],
    [(1, [0, 0, 0]), (2, [1, 1, 1]), (3, [2, 2, 2]), (4, [0, 1, 2]), (125, [255] * 4), (126, [])],
)


def last_places(boxes):
    """Of each sender, the last place of its last box."""
    places = {}
    behind = 0
    for box in boxes:
        behind += len(written([box]))
        places[box[0] // 2] = behind - 1
    return places


def told_of(parcels, places):
    """All these parcels as they are told, at these places."""
    told = [("parcel", sender, numbers, places[sender]) for sender, numbers in parcels]
    return sorted(told, key=lambda one: one[3])


def parcels_by_chance(chance, longest):
    senders = chance.sample(range(128), chance.randrange(1, 7))
    choice = (0, 1, 2, 125, 126, 255)
    return [
        (sender, [chance.choice((*choice, chance.randrange(256))) for place in range(chance.randrange(longest))])
        for sender in senders
    ]


class ComeThrough(unittest.TestCase):
    def check(self, parcels, many):
        before = copy.deepcopy(parcels)
        boxes = mixed(parcels, many)
        belt = sent(parcels, many)
        told = told_by([belt], MOST)
        expected = told_of(parcels, last_places(boxes))
        assert_same(self, [(one[1], one[2]) for one in told], boxes)
        assert_same(self, unpacked(told), expected)
        self.assertEqual(waiting(told), [])
        self.assertEqual(faults(told), [])
        self.assertTrue(parcels == before)

    def test_by_hand(self):
        belt = sent([(5, [8, 9, 7]), (0, [])], 2)
        told = told_by([belt[:7], belt[7:]], 3)
        self.assertEqual(told, [("box", 10, [0, 8, 9], 0, 8), ("box", 1, [0], 9, 15), ("box", 11, [1, 7], 16, 23)])
        self.assertEqual(unpacked(told), [("parcel", 0, [], 15), ("parcel", 5, [8, 9, 7], 23)])

    def test_loads(self):
        for parcels in LOADS:
            for many in (1, 2, 3, 4, 10, 300, 10**5000):
                with self.subTest(many=named(many)):
                    self.check(parcels, many)

    def test_every_sender(self):
        for sender in range(128):
            self.check([(sender, [sender, 125, 126]), (127 - sender, [])], 1)

    def test_long_ones(self):
        self.check([(sender, [place % 256 for place in range(300)]) for sender in (0, 62, 63, 64, 126, 127)], 70)
        self.check([(3, [126] * 250), (4, [125] * 249)], 1)
        self.check([(3, [place % 256 for place in range(350)])], 350)

    def test_by_chance(self):
        chance = random.Random(7)
        for row in range(300):
            self.check(parcels_by_chance(chance, 40), chance.choice((1, 2, 3, 7, 50)))

    def test_pieces(self):
        for parcels in LOADS:
            belt = sent(parcels, 2)
            told = []
            state = begun()
            for number in belt:
                state, more = fed(state, [number], MOST)
                told += more
            told += ended(state)
            self.assertEqual(told, told_by([belt], MOST))
            self.assertEqual(unpacked(told), told_of(parcels, last_places(mixed(parcels, 2))))

    def test_one_load_behind_another(self):
        parcels = LOADS[3]
        belt = sent(parcels, 2)
        first = told_of(parcels, last_places(mixed(parcels, 2)))
        second = [(*one[:3], one[3] + len(belt)) for one in first]
        self.assertEqual(unpacked(told_by([belt, belt], MOST)), first + second)

    def test_rubbish_ahead_and_behind(self):
        parcels = LOADS[3]
        first = told_of(parcels, last_places(mixed(parcels, 2)))
        for ahead in ([1, 2, 3], [126], [126, 125], [126, 0, 0, 1, 1, 2], [126, 125, 3], [126, 255, 255]):
            for behind in ([], [9], [126, 0]):
                told = told_by([ahead, sent(parcels, 2), behind], MOST)
                self.assertEqual(unpacked(told), [(*one[:3], one[3] + len(ahead)) for one in first])
                self.assertEqual(len(faults(told)), 1 + (behind != []))


class OneBoxIsMissing(unittest.TestCase):
    def check(self, parcels, told, sender, places):
        """All parcels come through, each once, but the sender's own."""
        others = [parcel for parcel in parcels if parcel[0] != sender]
        answer = unpacked(told)
        self.assertEqual([one for one in answer if one[0] == "parcel"], told_of(others, places))
        lost = [one for one in answer if one[0] == "lost"]
        self.assertLessEqual(len(lost), 1)
        self.assertTrue(all(one[1] == sender for one in lost))

    def test_left_out(self):
        for parcels in LOADS:
            for many in (1, 2, 3, 10):
                boxes = mixed(parcels, many)
                for row, box in enumerate(boxes):
                    rest = boxes[:row] + boxes[row + 1 :]
                    told = told_by([written(rest)], MOST)
                    self.check(parcels, told, box[0] // 2, last_places(rest))

    def test_which_one_was_left_out(self):
        # The third of four boxes is missed when the fourth comes, the last one when the belt ends, the first one never.
        boxes = boxes_of((5, [1, 2, 3, 4]), 1)
        for row, answer, waits in (
            (0, [], []),
            (1, [("lost", 5, 8)], []),
            (2, [("lost", 5, 16)], []),
            (3, [], [5]),
        ):
            told = told_by([written(boxes[:row] + boxes[row + 1 :])], MOST)
            self.assertEqual(unpacked(told), answer)
            self.assertEqual(waiting(told), waits)

    def test_one_number_of_a_box_is_another_one(self):
        for parcels in LOADS:
            boxes = mixed(parcels, 2)
            for row, box in enumerate(boxes):
                inside = inside_words(box)
                for place in range(2, len(inside)):
                    spoilt = list(inside)
                    spoilt[place] = (spoilt[place] + 1 + place) % 256
                    self.spoilt(parcels, boxes, row, spoilt)

    def spoilt(self, parcels, boxes, row, inside):
        signs = on_belt(inside)
        ahead = written(boxes[:row])
        told = told_by([ahead, signs, written(boxes[row + 1 :])], MOST)
        self.assertEqual(faults(told), [("check", len(ahead) + len(signs) - 1)])
        more = len(signs) - len(written([boxes[row]]))
        places = last_places(boxes)
        firsts = last_places(boxes[:row])
        for sender in places:
            if places[sender] != firsts.get(sender):
                places[sender] += more
        self.check(parcels, told, boxes[row][0] // 2, places)

    def test_a_box_is_cut_short(self):
        parcels = LOADS[3]
        boxes = mixed(parcels, 2)
        for row, box in enumerate(boxes):
            signs = written([box])
            ahead = written(boxes[:row])
            places = last_places(boxes)
            firsts = last_places(boxes[:row])
            for length in range(len(signs)):
                told = told_by([ahead, signs[:length], written(boxes[row + 1 :])], MOST)
                shifted = {
                    sender: place if place == firsts.get(sender) else place - len(signs) + length
                    for sender, place in places.items()
                }
                self.check(parcels, told, box[0] // 2, shifted)
                # Without its 126 nothing of the box is there.
                self.assertEqual(len(faults(told)), 1 if length else 0)


if __name__ == "__main__":
    unittest.main()
