"""Which numbers a belt has."""

from beltboxes.errors import NoNumber

LEAST = 0
GREATEST = 255


def is_belt_number(number):
    return LEAST <= number <= GREATEST


def refuse_other_numbers(numbers):
    for place, number in enumerate(numbers):
        if not is_belt_number(number):
            # The place is told, not the number: Python won't write out a number of some thousand figures.
            raise NoNumber(f"the number at place {place} is not from 0 to 255")
