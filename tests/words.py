"""What the document's points say, done another way than the program does it, for tests to hold the program against."""

import itertools

# Python itself refuses to write out numbers of more than 4300 figures, so some of those are here too.
BELOW = (-1, -2, -125, -126, -255, -256, -(10**30), -(10**5000))
ABOVE = (256, 257, 381, 382, 511, 512, 10**30, 2**64, 10**5000)


def named(number):
    """A short name for a number that may have thousands of figures."""
    return number if abs(number) < 10**30 else f"{'-' if number < 0 else ''}{number.bit_length()} bits"


def check_words(numbers):
    """Point 4."""
    return [sum(numbers) % 256, sum(itertools.accumulate(numbers)) % 256]


def inside_words(box):
    """What is in a box, its check numbers too, by point 5."""
    label, numbers = box
    ahead = [*divmod(len(numbers), 256), label, *numbers]
    return ahead + check_words(ahead)


def on_belt(inside):
    """126 and then what is in a box, good or not, with escapes."""
    told = bytes(inside).replace(b"\x7d", b"\x7d\x01").replace(b"\x7e", b"\x7d\x02")
    return [126, *told]


def written_words(boxes):
    signs = []
    for box in boxes:
        signs += on_belt(inside_words(box))
    return signs


def told_words(belt, most):
    """Points 7 and 8, with the whole belt at hand: it is cut ahead of each 126, and each stretch is told by itself."""
    starts = [place for place, number in enumerate(belt) if number == 126]
    told = []
    if belt and belt[0] != 126:
        told.append(("fault", "stray", 0))
    for start, behind in zip(starts, starts[1:] + [len(belt)]):
        last = "cut" if behind < len(belt) else "end"
        told += stretch_words(belt, start, behind, most) or [("fault", last, behind)]
    return told


def stretch_words(belt, start, behind, most):
    inside = []
    place = start + 1
    while place < behind:
        number = belt[place]
        if number == 125:
            place += 1
            if place == behind:
                return []
            if belt[place] not in (1, 2):
                return [("fault", "escape", place)]
            number = 124 + belt[place]
        inside.append(number)
        if len(inside) == 2 and inside[0] * 256 + inside[1] > most:
            return [("fault", "great", place)]
        if len(inside) > 4 and len(inside) == inside[0] * 256 + inside[1] + 5:
            if check_words(inside[:-2]) == inside[-2:]:
                told = [("box", inside[2], inside[3:-2], start, place)]
            else:
                told = [("fault", "check", place)]
            return told + ([("fault", "stray", place + 1)] if place + 1 < behind else [])
        place += 1
    return []


def unpacked_words(told):
    """Point 14, sender by sender: what is told, and the senders that wait."""
    rows = []
    waiting = []
    for sender in range(128):
        labels = (2 * sender, 2 * sender + 1)
        boxes = [(row, *one[1:]) for row, one in enumerate(told) if one[0] == "box" and one[1] in labels]
        hand = []
        for row, label, numbers, start, place in boxes:
            if hand and numbers[:1] != [len(hand)]:
                rows.append((row, 0, ("lost", sender, start)))
                hand = []
            if numbers[:1] == [len(hand)]:
                hand.append(numbers[1:])
                if label > 2 * sender:
                    rows.append((row, 1, ("parcel", sender, sum(hand, []), place)))
                    hand = []
        if hand:
            waiting.append(sender)
    return [one for row, order, one in sorted(rows)], waiting


def assert_same(case, answer, expected):
    # assertEqual would work on the difference of two long lists for many minutes.
    if len(expected) > 60 or any(len(str(one)) > 1000 for one in expected):
        case.assertTrue(answer == expected, "the long lists differ")
    else:
        case.assertEqual(answer, expected)
