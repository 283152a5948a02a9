"""The two numbers that mean something by themselves, and the escapes that tell them within a box."""

from beltboxes.bounds import refuse_other_numbers

ESCAPE = 125
BEGINNING = 126
TELLS_ESCAPE = 1
TELLS_BEGINNING = 2


def escape_of(number):
    if number == ESCAPE:
        return [ESCAPE, TELLS_ESCAPE]
    if number == BEGINNING:
        return [ESCAPE, TELLS_BEGINNING]
    return [number]


def escaped(numbers):
    refuse_other_numbers(numbers)
    signs = []
    for number in numbers:
        signs.extend(escape_of(number))
    return signs


def meaning_behind_escape(number):
    if number == TELLS_ESCAPE:
        return ESCAPE
    if number == TELLS_BEGINNING:
        return BEGINNING
    return None
