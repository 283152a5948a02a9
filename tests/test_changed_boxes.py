"""Point 9: a box is read whatever came ahead of it, and one that was changed is told as a fault."""

import itertools
import random
import unittest

from beltboxes.reading import told_by
from beltboxes.writing import written
from tests.words import inside_words, on_belt

BOXES = (
    (0, []),
    (7, []),
    (125, []),
    (126, []),
    (255, []),
    (1, [126]),
    (0, [0, 0, 0]),
    (255, [255, 255]),
    (125, [126, 125, 126]),
    (9, [3, 4, 250]),
    (61, [0]),
    (1, [1, 2, 1, 2, 125, 2, 125, 1]),
)
LONG = (5, [place * place % 256 for place in range(300)])


class WhateverCameAhead(unittest.TestCase):
    def check(self, ahead, box):
        signs = written([box])
        told = told_by([ahead + signs], 300)
        self.assertTrue(told[-1] == ("box", *box, len(ahead), len(ahead) + len(signs) - 1))

    def test_short_rows(self):
        for length in range(5):
            for ahead in itertools.product((0, 1, 2, 9, 125, 126), repeat=length):
                for box in ((7, []), (1, [126]), (126, [125, 0])):
                    self.check(list(ahead), box)

    def test_parts_of_other_boxes(self):
        for other in BOXES:
            signs = written([other])
            for first in range(len(signs)):
                for behind in range(first, len(signs) + 1):
                    self.check(signs[first:behind], (9, [3, 4, 250]))

    def test_rows_by_chance(self):
        chance = random.Random(5)
        for row in range(300):
            ahead = [chance.choice((0, 125, 126, chance.randrange(256))) for place in range(chance.randrange(40))]
            self.check(ahead, chance.choice(BOXES + (LONG,)))

    def test_long_rows(self):
        for number in (0, 125, 126, 255):
            self.check([number] * 4000, LONG)


class Changed(unittest.TestCase):
    def is_told_as_check(self, inside, further=(9, [3, 4, 250])):
        signs = on_belt(inside)
        fault = ("fault", "check", len(signs) - 1)
        self.assertEqual(told_by([signs], 300), [fault])
        told = told_by([signs + written([further])], 300)
        self.assertEqual(told, [fault, ("box", *further, len(signs), len(signs) + 8)])

    def test_unchanged_they_are_read(self):
        for box in BOXES + (LONG,):
            signs = on_belt(inside_words(box))
            self.assertTrue(written([box]) == signs)
            self.assertTrue(told_by([signs], 300) == [("box", *box, 0, len(signs) - 1)])

    def test_one_is_another_one(self):
        for box in BOXES:
            inside = inside_words(box)
            for place in range(2, len(inside)):
                for number in range(256):
                    if number != inside[place]:
                        self.is_told_as_check(inside[:place] + [number] + inside[place + 1 :])

    def test_one_of_a_long_box_is_another_one(self):
        inside = inside_words(LONG)
        for place in range(2, len(inside)):
            for number in ((inside[place] + 1) % 256, (inside[place] + 128) % 256):
                self.is_told_as_check(inside[:place] + [number] + inside[place + 1 :])

    def test_two_neighbours_have_changed_places(self):
        for box in BOXES + (LONG,):
            inside = inside_words(box)
            behind = len(inside) - 2
            for place in [*range(2, behind - 1), behind]:
                one, other = inside[place : place + 2]
                if one != other:
                    self.is_told_as_check(inside[:place] + [other, one] + inside[place + 2 :])

    def test_all_pairs_of_neighbours(self):
        for one in range(0, 256, 3):
            for other in range(one + 1, 256, 7):
                inside = inside_words((one, [other]))
                self.is_told_as_check(inside[:2] + [other, one] + inside[4:])


if __name__ == "__main__":
    unittest.main()
