import itertools
import random
import unittest

from beltboxes.reading import begun, ended, fed, told_by
from tests.words import assert_same, named, told_words, written_words

# The box (7, []), six numbers long, and what is told of it at a place.
EMPTY = [126, 0, 0, 7, 7, 7]
# The box (9, [3, 4, 250]), nine numbers long.
FULL = [126, 0, 3, 9, 3, 4, 250, 13, 62]
# As EMPTY, with another last number.
SPOILT = [126, 0, 0, 7, 7, 8]
MANY = 5000


def empty_at(place):
    return ("box", 7, [], place, place + 5)


def full_at(place):
    return ("box", 9, [3, 4, 250], place, place + 8)


def fault(word, place):
    return ("fault", word, place)


class Reading(unittest.TestCase):
    def check(self, belt, most, expected):
        before = list(belt)
        told = told_by([belt], most)
        assert_same(self, told, expected)
        self.assertIs(type(told), list)
        for one in told:
            self.assertIs(type(one), tuple)
            if one[0] == "box":
                self.assertIs(type(one[2]), list)
        self.assertTrue(belt == before)


class Boxes(Reading):
    def test_no_numbers(self):
        self.check([], MANY, [])
        self.assertEqual(told_by([], MANY), [])

    def test_the_documents_own(self):
        self.check([126, 0, 1, 1, 125, 2, 128, 131], MANY, [("box", 1, [126], 0, 7)])

    def test_ordinary_boxes(self):
        self.check(EMPTY, MANY, [empty_at(0)])
        self.check(FULL, MANY, [full_at(0)])
        self.check([126, 0, 0, 0, 0, 0], MANY, [("box", 0, [], 0, 5)])
        self.check([126, 0, 1, 255, 255, 255, 0], MANY, [("box", 255, [255], 0, 6)])

    def test_several_boxes(self):
        self.check(EMPTY + FULL + EMPTY, MANY, [empty_at(0), full_at(6), empty_at(15)])

    def test_escapes_in_the_label(self):
        self.check([126, 0, 0, 125, 1, 125, 1, 125, 1], MANY, [("box", 125, [], 0, 8)])
        self.check([126, 0, 0, 125, 2, 125, 2, 125, 2], MANY, [("box", 126, [], 0, 8)])

    def test_escapes_in_the_numbers(self):
        self.check([126, 0, 2, 1, 125, 1, 125, 2, 254, 131], MANY, [("box", 1, [125, 126], 0, 9)])
        self.check(
            [126, 0, 2, 1, 125, 2, 125, 1, 254, 132] + EMPTY,
            MANY,
            [("box", 1, [126, 125], 0, 9), empty_at(10)],
        )

    def test_escapes_in_the_check_numbers(self):
        self.check([126, 0, 1, 25, 99, 125, 1, 152], MANY, [("box", 25, [99], 0, 7)])
        self.check([126, 0, 1, 25, 100, 125, 2, 153], MANY, [("box", 25, [100], 0, 7)])
        self.check([126, 0, 1, 61, 0, 62, 125, 1] + EMPTY, MANY, [("box", 61, [0], 0, 7), empty_at(8)])
        self.check([126, 0, 1, 61, 1, 63, 125, 2] + EMPTY, MANY, [("box", 61, [1], 0, 7), empty_at(8)])

    def test_escapes_in_the_length(self):
        for many in (125, 126):
            belt = [126, 0, 125, many - 124] + [0] * (many + 1) + [125, many - 124, (many + 2) * many % 256]
            self.check(belt, MANY, [("box", 0, [0] * many, 0, many + 7)])
            self.check(belt, many, [("box", 0, [0] * many, 0, many + 7)])
            # The length has come whole with the second of the escape's two.
            self.check(belt, many - 1, [fault("great", 3)])

    def test_an_escape_in_the_first_of_the_length(self):
        self.check([126, 125, 1, 0], MANY, [fault("great", 3)])
        self.check([126, 125, 2, 0], MANY, [fault("great", 3)])
        self.check([126, 125, 2, 125, 1], 126 * 256 + 124, [fault("great", 4)])
        self.check([126, 125, 2, 125, 1], 126 * 256 + 125, [fault("end", 5)])
        self.check([126, 125, 1, 125, 2], 125 * 256 + 125, [fault("great", 4)])
        self.check([126, 125, 1, 125, 2], 125 * 256 + 126, [fault("end", 5)])

    def test_1_and_2_stand_for_themselves_without_an_escape(self):
        self.check([126, 0, 2, 1, 1, 2, 6, 15], MANY, [("box", 1, [1, 2], 0, 7)])

    def test_lengths_in_two_numbers(self):
        for many in (254, 255, 256, 257, 258, 259, 512, 2000, 2500):
            with self.subTest(many=many):
                numbers = [place * 11 % 256 for place in range(many)]
                belt = written_words([(5, numbers)])
                told = [("box", 5, numbers, 0, len(belt) - 1)]
                self.check(belt, MANY, told)
                self.check(belt, many, told)
                self.check(belt, many - 1, [fault("great", 2)])

    def test_every_label_and_every_number(self):
        for number in range(256):
            for label, numbers in ((number, []), (0, [number]), (number, [number] * 3)):
                belt = written_words([(label, numbers)])
                self.check(belt, 3, [("box", label, numbers, 0, len(belt) - 1)])


class Faults(Reading):
    def test_cut(self):
        for length in range(1, 6):
            self.check(EMPTY[:length] + EMPTY, MANY, [fault("cut", length), empty_at(length)])
        for length in range(1, 9):
            self.check(FULL[:length] + EMPTY, MANY, [fault("cut", length), empty_at(length)])

    def test_no_cut_behind_a_box_that_has_come_to_its_end(self):
        self.check(EMPTY + [126], MANY, [empty_at(0), fault("end", 7)])

    def test_two_126_side_by_side(self):
        self.check([126, 126], MANY, [fault("cut", 1), fault("end", 2)])
        self.check([126] + EMPTY, MANY, [fault("cut", 1), empty_at(1)])
        self.check([126, 126, 126] + EMPTY, MANY, [fault("cut", 1), fault("cut", 2), fault("cut", 3), empty_at(3)])

    def test_126_behind_an_escape_begins_a_box(self):
        self.check([126, 125, 126], MANY, [fault("cut", 2), fault("end", 3)])
        self.check([126, 0, 125] + EMPTY, MANY, [fault("cut", 3), empty_at(3)])
        self.check([126, 0, 1, 1, 125] + FULL, MANY, [fault("cut", 5), full_at(5)])
        # The escape is gone with the box that was cut.
        self.check([126, 125, 126, 1], MANY, [fault("cut", 2), fault("end", 4)])
        self.check([126, 125, 126, 0, 1], 0, [fault("cut", 2), fault("great", 4)])

    def test_what_was_in_a_cut_box_is_gone(self):
        self.check([126, 0, 1, 1] + EMPTY, 0, [fault("great", 2), empty_at(4)])
        self.check([126, 0, 1, 1] + EMPTY + FULL, 3, [fault("cut", 4), empty_at(4), full_at(10)])

    def test_stray(self):
        for number in range(256):
            if number != 126:
                self.check([number], MANY, [fault("stray", 0)])
                self.check([number] + EMPTY, MANY, [fault("stray", 0), empty_at(1)])
                self.check(EMPTY + [number] + EMPTY, MANY, [empty_at(0), fault("stray", 6), empty_at(7)])

    def test_behind_a_stray_one_the_others_are_passed_over(self):
        self.check([5, 6, 7, 125, 1, 125, 9, 255], MANY, [fault("stray", 0)])
        self.check([5, 6, 7] + EMPTY, MANY, [fault("stray", 0), empty_at(3)])
        self.check(EMPTY + [7, 7, 7] + FULL, MANY, [empty_at(0), fault("stray", 6), full_at(9)])
        self.check([1] + EMPTY + [2, 2] + EMPTY + [3], MANY, [
            fault("stray", 0), empty_at(1), fault("stray", 7), empty_at(9), fault("stray", 15),
        ])

    def test_an_escape_ahead_of_a_box_is_stray_and_no_escape(self):
        self.check([125] + EMPTY, MANY, [fault("stray", 0), empty_at(1)])
        self.check([125, 2] + EMPTY, MANY, [fault("stray", 0), empty_at(2)])
        self.check([9, 125] + EMPTY, MANY, [fault("stray", 0), empty_at(2)])
        self.check(EMPTY + [125] + EMPTY, MANY, [empty_at(0), fault("stray", 6), empty_at(7)])

    def test_escape(self):
        for number in range(256):
            if number not in (1, 2, 126):
                for ahead in ([126], [126, 0], [126, 0, 1], [126, 0, 1, 1], [126, 0, 1, 1, 9], [126, 0, 1, 1, 9, 11]):
                    belt = ahead + [125, number]
                    told = [fault("escape", len(ahead) + 1)]
                    self.check(belt, MANY, told)
                    self.check(belt + EMPTY, MANY, told + [empty_at(len(belt))])

    def test_two_escapes_side_by_side(self):
        self.check([126, 125, 125], MANY, [fault("escape", 2)])
        self.check([126, 0, 1, 1, 125, 125, 1, 125, 2] + EMPTY, MANY, [fault("escape", 5), empty_at(9)])

    def test_behind_an_escape_fault_the_others_are_passed_over(self):
        self.check([126, 125, 0, 0, 0, 7, 7, 7, 125, 9], MANY, [fault("escape", 2)])
        self.check([126, 125, 9] + [0] * 20 + FULL, MANY, [fault("escape", 2), full_at(23)])

    def test_great(self):
        self.check(FULL, 3, [full_at(0)])
        self.check(FULL, 2, [fault("great", 2)])
        self.check(FULL, 0, [fault("great", 2)])
        self.check(EMPTY + FULL + EMPTY, 2, [empty_at(0), fault("great", 8), empty_at(15)])
        self.check([126, 1, 0], 255, [fault("great", 2)])
        self.check([126, 1, 0], 256, [fault("end", 3)])
        self.check([126, 255, 255], 65534, [fault("great", 2)])
        self.check([126, 255, 255], 65535, [fault("end", 3)])

    def test_great_is_told_when_the_second_has_come_and_not_before(self):
        self.check([126, 255], 0, [fault("end", 2)])
        self.check([126, 255] + EMPTY, 0, [fault("cut", 2), empty_at(2)])
        self.check([126, 255, 125] + EMPTY, 0, [fault("cut", 3), empty_at(3)])
        self.check([126, 255, 125, 3] + EMPTY, 0, [fault("escape", 3), empty_at(4)])
        self.check([126, 255, 125, 1] + EMPTY, 0, [fault("great", 3), empty_at(4)])

    def test_behind_a_great_one_the_others_are_passed_over(self):
        self.check([126, 9, 9, 125, 9, 5, 5, 5], 3, [fault("great", 2)])
        self.check([126, 9, 9, 125] + FULL, 3, [fault("great", 2), full_at(4)])
        self.check(written_words([(1, [5] * 300)]) + FULL, 299, [fault("great", 2), full_at(306)])

    def test_nothing_is_allowed(self):
        for most in (-1, -2, -256, -(10**30), -(10**5000)):
            with self.subTest(most=named(most)):
                self.check(EMPTY + FULL, most, [fault("great", 2), fault("great", 8)])
                self.check([126, 0], most, [fault("end", 2)])
                self.check([5] + EMPTY, most, [fault("stray", 0), fault("great", 3)])

    def test_only_boxes_without_numbers_are_allowed(self):
        self.check(EMPTY + FULL + EMPTY, 0, [empty_at(0), fault("great", 8), empty_at(15)])
        self.check([126, 0, 1, 0, 0, 1, 3], 0, [fault("great", 2)])
        self.check([126, 0, 1, 0, 0, 1, 3], 1, [("box", 0, [0], 0, 6)])

    def test_most_of_many_figures(self):
        for most in (65535, 65536, 2**64, 10**30, 10**5000):
            with self.subTest(most=named(most)):
                self.check(EMPTY + FULL, most, [empty_at(0), full_at(6)])
                self.check([126, 255, 255, 0], most, [fault("end", 4)])

    def test_check(self):
        self.check(SPOILT, MANY, [fault("check", 5)])
        self.check([126, 0, 0, 7, 8, 7], MANY, [fault("check", 5)])
        self.check([126, 0, 0, 8, 7, 7], MANY, [fault("check", 5)])
        self.check([126, 0, 1, 1, 125, 1, 128, 131], MANY, [fault("check", 7)])
        self.check([126, 0, 1, 1, 125, 2, 131, 128], MANY, [fault("check", 7)])
        self.check([126, 0, 0, 7, 7, 125, 2], MANY, [fault("check", 6)])

    def test_behind_a_check_fault_the_belt_is_at_rest(self):
        self.check(SPOILT + EMPTY, MANY, [fault("check", 5), empty_at(6)])
        self.check(SPOILT + [0], MANY, [fault("check", 5), fault("stray", 6)])
        self.check(SPOILT + [125, 9, 9] + FULL, MANY, [fault("check", 5), fault("stray", 6), full_at(9)])
        self.check(SPOILT + [126], MANY, [fault("check", 5), fault("end", 7)])

    def test_a_length_that_tells_too_few_or_too_many(self):
        # Too few: the box is at its end too early, and what is left is stray.
        self.check([126, 0, 2, 9, 3, 4, 250, 13, 62], MANY, [fault("check", 7), fault("stray", 8)])
        self.check([126, 0, 4, 9, 3, 4, 250, 13, 62], MANY, [fault("end", 9)])
        self.check([126, 0, 4, 9, 3, 4, 250, 13, 62] + EMPTY, MANY, [fault("cut", 9), empty_at(9)])

    def test_end(self):
        for length in range(1, 6):
            self.check(EMPTY[:length], MANY, [fault("end", length)])
        for length in range(1, 9):
            self.check(EMPTY + FULL[:length], MANY, [empty_at(0), fault("end", 6 + length)])
        self.check([126, 0, 1, 1, 125], MANY, [fault("end", 5)])
        self.check([126, 125], MANY, [fault("end", 2)])

    def test_no_end_where_no_box_is_unfinished(self):
        for belt, most, expected in (
            ([], MANY, []),
            (EMPTY, MANY, [empty_at(0)]),
            (SPOILT, MANY, [fault("check", 5)]),
            ([5, 5], MANY, [fault("stray", 0)]),
            ([126, 125, 9, 9], MANY, [fault("escape", 2)]),
            (FULL, 1, [fault("great", 2)]),
        ):
            self.check(belt, most, expected)

    def test_no_cut_where_a_fault_of_the_box_was_told(self):
        self.check([126, 125, 9, 126], MANY, [fault("escape", 2), fault("end", 4)])
        self.check([126, 0, 9, 126], 3, [fault("great", 2), fault("end", 4)])
        self.check(SPOILT + [126], MANY, [fault("check", 5), fault("end", 7)])
        self.check([9, 126], MANY, [fault("stray", 0), fault("end", 2)])

    def test_several_faults_on_one_belt(self):
        belt = [4, 4] + EMPTY + [126, 0] + SPOILT + [126, 125, 3, 3] + FULL + [126, 0, 4, 1] + [126, 0, 0, 125]
        self.check(belt, 3, [
            fault("stray", 0),
            empty_at(2),
            fault("cut", 10),
            fault("check", 15),
            fault("escape", 18),
            full_at(20),
            fault("great", 31),
            fault("end", 37),
        ])

    def test_a_box_behind_each_kind_of_fault(self):
        for ahead, told in (
            ([126, 0], [fault("cut", 2)]),
            ([7, 7], [fault("stray", 0)]),
            ([126, 125, 7], [fault("escape", 2)]),
            ([126, 0, 4], [fault("great", 2)]),
            (SPOILT, [fault("check", 5)]),
        ):
            many = len(ahead)
            self.check(ahead + FULL, 3, told + [full_at(many)])
            self.check(ahead + FULL + EMPTY, 3, told + [full_at(many), empty_at(many + 9)])


class ByTheWords(Reading):
    def test_all_short_belts(self):
        for length in range(6):
            for belt in itertools.product((0, 1, 2, 3, 125, 126), repeat=length):
                for most in (-1, 0, MANY):
                    self.assertEqual(told_by([list(belt)], most), told_words(belt, most))

    def test_all_short_ends_of_a_box(self):
        for ahead in ([126, 0, 0], [126, 0, 1], [126, 0, 0, 125]):
            for length in range(6):
                for behind in itertools.product((0, 1, 2, 125, 126), repeat=length):
                    belt = ahead + list(behind)
                    self.assertEqual(told_by([belt], 1), told_words(belt, 1))

    def test_belts_by_chance(self):
        chance = random.Random(1)
        for row in range(1500):
            belt = belt_by_chance(chance, chance.randrange(1, 12))
            most = chance.choice((-1, 0, 1, 2, 3, 255, MANY))
            assert_same(self, told_by([belt], most), told_words(belt, most))

    def test_long_belts(self):
        chance = random.Random(2)
        for row in range(10):
            belt = (belt_by_chance(chance, 900) * 9)[:5500]
            self.check(belt, 4, told_words(belt, 4))
        self.check([126] * 5500, 4, told_words([126] * 5500, 4))
        self.check([0] * 5500, 4, [fault("stray", 0)])


def belt_by_chance(chance, many):
    belt = []
    for row in range(many):
        numbers = [chance.choice((0, 1, 125, 126, chance.randrange(256))) for place in range(chance.randrange(5))]
        signs = written_words([(chance.choice((125, 126, chance.randrange(256))), numbers)])
        sort = chance.randrange(6)
        if sort == 0:
            signs = signs[: chance.randrange(len(signs))]
        elif sort == 1:
            signs[chance.randrange(len(signs))] = chance.choice((1, 2, 125, 126, chance.randrange(256)))
        elif sort == 2:
            signs = [chance.randrange(256) for place in range(chance.randrange(4))]
        belt += signs
    return belt


class Interface(unittest.TestCase):
    def test_what_fed_gives_back(self):
        answer = fed(begun(), [5] + EMPTY, MANY)
        self.assertIs(type(answer), tuple)
        self.assertEqual(len(answer), 2)
        self.assertIs(type(answer[1]), list)
        self.assertEqual(answer[1], [fault("stray", 0), empty_at(1)])

    def test_what_ended_gives_back(self):
        self.assertIs(type(ended(begun())), list)
        self.assertEqual(ended(begun()), [])
        self.assertEqual(ended(fed(begun(), [126, 0], MANY)[0]), [fault("end", 2)])
        self.assertEqual(ended(fed(begun(), EMPTY, MANY)[0]), [])

    def test_the_end_is_not_told_by_fed(self):
        self.assertEqual(fed(begun(), [126, 0], MANY)[1], [])

    def test_arguments_by_name(self):
        state, told = fed(state=begun(), piece=[126], most=3)
        self.assertEqual(told, [])
        self.assertEqual(ended(state=state), [fault("end", 1)])
        self.assertEqual(told_by(pieces=[[126], [0]], most=3), [fault("end", 2)])


if __name__ == "__main__":
    unittest.main()
