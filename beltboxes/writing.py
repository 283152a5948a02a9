"""Boxes written on a belt."""

from beltboxes.bounds import is_belt_number, length_as_two, place_of_other
from beltboxes.checks import check_of
from beltboxes.errors import NoBox
from beltboxes.signs import BEGINNING, escaped


def refuse_other_than_boxes(boxes):
    for index, box in enumerate(boxes):
        if not is_belt_number(box[0]):
            raise NoBox(f"the label of box {index} is not from 0 to 255")
        place = place_of_other(box[1])
        if place is not None:
            raise NoBox(f"the number at place {place} of box {index} is not from 0 to 255")


def inside_of(label, numbers):
    ahead = length_as_two(len(numbers)) + [label] + numbers
    return ahead + check_of(ahead)


def written(boxes):
    refuse_other_than_boxes(boxes)
    signs = []
    for label, numbers in boxes:
        signs.append(BEGINNING)
        signs.extend(escaped(inside_of(label, numbers)))
    return signs
