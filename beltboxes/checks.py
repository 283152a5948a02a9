"""The check numbers, by which a spoilt box is known."""

from beltboxes.bounds import refuse_other_numbers

ROUND = 256


def check_of(numbers):
    refuse_other_numbers(numbers)
    total = 0
    total_of_totals = 0
    for number in numbers:
        total = (total + number) % ROUND
        total_of_totals = (total_of_totals + total) % ROUND
    return [total, total_of_totals]
