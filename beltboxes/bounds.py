"""Which numbers a belt has, and how two of them tell a length."""

from beltboxes.errors import NoNumber

LEAST = 0
GREATEST = 255
FIRST_TELLS = 256


def is_belt_number(number):
    return LEAST <= number <= GREATEST


def place_of_other(numbers):
    for place, number in enumerate(numbers):
        if not is_belt_number(number):
            return place
    return None


def refuse_other_numbers(numbers):
    place = place_of_other(numbers)
    if place is not None:
        # The place is told, not the number: Python won't write out a number of some thousand figures.
        raise NoNumber(f"the number at place {place} is not from 0 to 255")


def length_as_two(length):
    return [length // FIRST_TELLS, length % FIRST_TELLS]


def length_of_two(first, second):
    return first * FIRST_TELLS + second
