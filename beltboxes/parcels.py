"""Parcels put into boxes, several at a time."""

from beltboxes.bounds import LEAST, place_of_other
from beltboxes.errors import NoParcel
from beltboxes.writing import written

GREATEST_SENDER = 127
LEAST_ROOM = 1
MOST_BOXES = 250


def refuse_no_room(many):
    if many < LEAST_ROOM:
        raise NoParcel("a box has room for fewer than one number")


def refuse_other_than_parcel(sender, numbers):
    if not LEAST <= sender <= GREATEST_SENDER:
        raise NoParcel("the sender is not from 0 to 127")
    place = place_of_other(numbers)
    if place is not None:
        raise NoParcel(f"the number at place {place} is not from 0 to 255")


def how_many_boxes(length, many):
    # Even a parcel without numbers needs a box.
    return max(1, (length + many - 1) // many)


def label_of(sender, is_last):
    return 2 * sender + 1 if is_last else 2 * sender


def boxes_of(parcel, many):
    sender = parcel[0]
    numbers = parcel[1]
    refuse_no_room(many)
    refuse_other_than_parcel(sender, numbers)
    needed = how_many_boxes(len(numbers), many)
    if needed > MOST_BOXES:
        raise NoParcel("the parcel needs more than 250 boxes")
    boxes = []
    for count in range(needed):
        first = count * many
        label = label_of(sender, count == needed - 1)
        boxes.append((label, [count] + numbers[first : first + many]))
    return boxes


def mixed(parcels, many):
    # Asked here too: where there is no parcel, nothing below asks it.
    refuse_no_room(many)
    rows = [boxes_of(parcel, many) for parcel in parcels]
    boxes = []
    for count in range(max([len(row) for row in rows], default=0)):
        for row in rows:
            if count < len(row):
                boxes.append(row[count])
    return boxes


def sent(parcels, many):
    return written(mixed(parcels, many))
