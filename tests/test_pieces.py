import copy
import random
import unittest

from beltboxes.errors import BeltError, NoNumber
from beltboxes.reading import begun, ended, fed, told_by
from tests.words import ABOVE, BELOW, assert_same, named, told_words, written_words

EMPTY = [126, 0, 0, 7, 7, 7]
FULL = [126, 0, 3, 9, 3, 4, 250, 13, 62]
BOXES = [(1, [126, 125]), (125, []), (126, [1, 2, 3]), (0, [255, 0]), (61, [0])]

# Each has its faults at other places, and breaks off where pieces may be cut: in escapes, in the length, at rest.
BELTS = (
    [],
    [126],
    [125],
    written_words(BOXES),
    [9, 9] + written_words(BOXES) + [9, 125, 2] + EMPTY,
    [126, 125, 126, 0, 125] + EMPTY + [126, 0, 0, 7, 7, 8, 5, 5] + FULL,
    [126, 125, 9, 9] + FULL + [126, 0, 9, 1, 125, 7] + EMPTY + [126, 0, 1, 1, 125],
    [126, 125, 2, 125, 1] + EMPTY + [126, 126, 126] + FULL + [126, 0],
)
MOSTS = (-1, 0, 2, 3, 5000)


def feed_all(pieces, most):
    state = begun()
    told = []
    for piece in pieces:
        state, more = fed(state, piece, most)
        told += more
    return told + ended(state)


def cuts_by_chance(chance, belt):
    places = sorted(chance.randrange(len(belt) + 1) for row in range(chance.randrange(8)))
    return [belt[first:behind] for first, behind in zip([0] + places, places + [len(belt)])]


class Pieces(unittest.TestCase):
    def check(self, pieces, most):
        before = copy.deepcopy(pieces)
        expected = told_words(sum(pieces, []), most)
        assert_same(self, told_by(pieces, most), expected)
        assert_same(self, feed_all(pieces, most), expected)
        self.assertTrue(pieces == before)

    def test_one_piece_and_number_by_number(self):
        for belt in BELTS:
            for most in MOSTS:
                self.check([belt], most)
                self.check([[number] for number in belt], most)

    def test_two_pieces_cut_at_each_place(self):
        for belt in BELTS:
            for most in MOSTS:
                for place in range(len(belt) + 1):
                    self.check([belt[:place], belt[place:]], most)

    def test_three_pieces_cut_at_each_two_places(self):
        belt = [5] + FULL + [126, 125, 126, 0, 1, 1, 125, 2, 128, 131, 126, 0, 125]
        for behind in range(len(belt) + 1):
            for place in range(behind + 1):
                self.check([belt[:place], belt[place:behind], belt[behind:]], 3)

    def test_cut_anyhow(self):
        chance = random.Random(3)
        for belt in BELTS:
            for row in range(40):
                self.check(cuts_by_chance(chance, belt), chance.choice(MOSTS))

    def test_empty_pieces(self):
        self.assertEqual(told_by([[]], 3), [])
        self.assertEqual(told_by([[], [], []], 3), [])
        for belt in BELTS:
            pieces = [[]]
            for number in belt:
                pieces += [[number], [], []]
            self.check(pieces, 3)
            self.check([[], belt, []], 3)

    def test_an_empty_piece_tells_nothing_and_ends_nothing(self):
        state, told = fed(begun(), [126, 0, 3, 9], 3)
        for row in range(3):
            state, told = fed(state, [], 3)
            self.assertEqual(told, [])
        self.assertEqual(fed(state, FULL[4:], 3)[1], [("box", 9, [3, 4, 250], 0, 8)])

    def test_what_is_told_comes_with_the_piece_at_which_it_is_told(self):
        pieces = [
            [126, 0, 3], [9, 3], [4, 250, 13], [62], [5], [126, 0], [126], [125],
            [7], EMPTY + [126, 0, 0, 7, 7], [8],
        ]
        expected = [
            [], [], [], [("box", 9, [3, 4, 250], 0, 8)], [("fault", "stray", 9)], [], [("fault", "cut", 12)], [],
            [("fault", "escape", 14)], [("box", 7, [], 15, 20)], [("fault", "check", 26)],
        ]
        state = begun()
        for piece, more in zip(pieces, expected):
            state, told = fed(state, piece, 3)
            self.assertEqual(told, more)
        self.assertEqual(ended(state), [])

    def test_long_belts(self):
        chance = random.Random(4)
        numbers = [chance.choice((125, 126, 1, 2, chance.randrange(256))) for place in range(2000)]
        belt = [9] + written_words([(5, numbers), (6, numbers[:700])]) + [126, 0]
        self.check([belt], 2000)
        self.check([[number] for number in belt], 2000)
        self.check([belt[place : place + 256] for place in range(0, len(belt), 256)], 2000)
        self.check([[number] for number in belt], 1999)


class States(unittest.TestCase):
    def test_two_belts_fed_in_turn(self):
        one = written_words(BOXES) + [126, 0]
        other = ([4] + FULL + [126, 125, 5] + EMPTY + written_words(BOXES))[: len(one)]
        states = [begun(), begun()]
        told = [[], []]
        for numbers in zip(one, other):
            for belt, number in enumerate(numbers):
                states[belt], more = fed(states[belt], [number], 3)
                told[belt] += more
        self.assertEqual(told[0] + ended(states[0]), told_words(one, 3))
        self.assertEqual(told[1] + ended(states[1]), told_words(other, 3))

    def test_one_beginning_for_several_belts(self):
        beginning = begun()
        for row in range(2):
            for belt in BELTS:
                state, told = fed(beginning, belt, 3)
                self.assertEqual(told + ended(state), told_words(belt, 3))
        self.assertEqual(ended(beginning), [])

    def test_one_state_fed_with_other_pieces(self):
        pieces = ([], [126], [125], [1], [2], [0, 0, 0], [7, 7, 7], EMPTY, FULL, FULL[3:], [9, 9, 125, 126, 0])
        for belt in BELTS:
            for place in range(len(belt) + 1):
                state, ahead = fed(begun(), belt[:place], 3)
                for piece in pieces + pieces:
                    further, told = fed(state, piece, 3)
                    self.assertEqual(ahead + told + ended(further), told_words(belt[:place] + piece, 3))
                self.assertEqual(ahead + ended(state), told_words(belt[:place], 3))

    def test_states_that_part_go_their_own_ways(self):
        state = fed(begun(), [126, 0, 3, 9, 3], 3)[0]
        one = fed(state, [4], 3)[0]
        other = fed(state, [5], 3)[0]
        one, told = fed(one, [250, 13, 62], 3)
        self.assertEqual(told, [("box", 9, [3, 4, 250], 0, 8)])
        # The sums of 0, 3, 9, 3, 5, 250: 0, 3, 12, 15, 20, 270; all of them make 320.
        other, told = fed(other, [250, 14, 64], 3)
        self.assertEqual(told, [("box", 9, [3, 5, 250], 0, 8)])
        self.assertEqual(ended(state), [("fault", "end", 5)])

    def test_ended_leaves_the_state_as_good_as_before(self):
        state = fed(begun(), [126, 0, 0, 7, 125], 3)[0]
        for row in range(3):
            self.assertEqual(ended(state), [("fault", "end", 5)])
        self.assertEqual(fed(state, [1, 7], 3)[1], [("fault", "check", 6)])

    def test_what_is_told_may_be_changed(self):
        state, told = fed(begun(), FULL, 3)
        told[0][2].append(77)
        told.append(77)
        self.assertEqual(fed(state, FULL, 3)[1], [("box", 9, [3, 4, 250], 9, 17)])
        piece = [126, 0, 3, 9]
        state = fed(begun(), piece, 3)[0]
        piece.append(77)
        self.assertEqual(fed(state, FULL[4:], 3)[1], [("box", 9, [3, 4, 250], 0, 8)])
        ended(state).append(77)
        self.assertEqual(ended(state), [("fault", "end", 4)])


def pieces_with(stranger):
    return (
        [stranger],
        [stranger] + EMPTY,
        EMPTY + [stranger],
        EMPTY[:3] + [stranger] + EMPTY[4:],
        [126, 125, stranger],
        [9, 9, stranger, 9],
        [126, 125, 9, stranger],
        [stranger, stranger],
        FULL * 500 + [stranger],
        [stranger] + FULL * 500,
    )


class Refusals(unittest.TestCase):
    def refused(self, function, *arguments):
        before = copy.deepcopy(arguments[-2])
        with self.assertRaises(NoNumber) as caught:
            function(*arguments)
        self.assertIs(type(caught.exception), NoNumber)
        self.assertIsInstance(caught.exception, BeltError)
        self.assertTrue(arguments[-2] == before)

    def test_fed(self):
        for stranger in BELOW + ABOVE:
            for row, piece in enumerate(pieces_with(stranger)):
                with self.subTest(stranger=named(stranger), row=row):
                    self.refused(fed, begun(), piece, 3)

    def test_told_by(self):
        for stranger in BELOW + ABOVE:
            for row, piece in enumerate(pieces_with(stranger)):
                with self.subTest(stranger=named(stranger), row=row):
                    self.refused(told_by, [piece], 3)
                    self.refused(told_by, [piece, EMPTY], 3)
                    self.refused(told_by, [[], EMPTY, piece, []], 3)
                    self.refused(told_by, [EMPTY, [9], piece], 3)

    def test_in_each_phase_of_the_belt(self):
        for ahead in ([], EMPTY, [9], [126], [126, 0, 3], [126, 0, 0, 125], [126, 125, 9], [126, 9, 9]):
            for stranger in (-1, 256, -(10**5000), 10**5000):
                for most in (-1, 3, 10**5000):
                    with self.subTest(ahead=ahead, stranger=named(stranger)):
                        self.refused(fed, fed(begun(), ahead, most)[0], [stranger], most)
                        self.refused(told_by, [ahead, [stranger]], most)

    def test_below_and_above_do_not_make_up_for_each_other(self):
        self.refused(fed, begun(), [-1, 256], 3)
        self.refused(fed, begun(), [256, -256], 3)

    def test_nothing_of_the_piece_is_read(self):
        for belt in BELTS:
            for place in range(len(belt) + 1):
                state, ahead = fed(begun(), belt[:place], 3)
                for stranger in (-1, 256, 10**5000):
                    self.refused(fed, state, FULL[:5] + [stranger], 3)
                    self.refused(fed, state, [126, 125, 9, stranger], 3)
                    self.refused(fed, state, [stranger] + belt[place:], 3)
                    self.refused(fed, state, belt[place:] + [stranger], 3)
                self.assertEqual(ahead + ended(state), told_words(belt[:place], 3))
                further, told = fed(state, belt[place:], 3)
                self.assertEqual(ahead + told + ended(further), told_words(belt, 3))

    def test_least_and_greatest_are_not_refused(self):
        self.assertEqual(fed(begun(), [0, 255], 3)[1], [("fault", "stray", 0)])
        self.assertEqual(told_by([[126, 255, 0], [0, 255]], 3), [("fault", "great", 2)])
        for number in range(256):
            fed(begun(), [number], 3)


if __name__ == "__main__":
    unittest.main()
