"""Boxes and faults told of a belt, number by number."""

from beltboxes.bounds import length_of_two, refuse_other_numbers
from beltboxes.checks import check_of
from beltboxes.signs import BEGINNING, ESCAPE, meaning_behind_escape

AT_REST = "at rest"
PASSING_OVER = "passing over"
IN_BOX = "in a box"
BEHIND_ESCAPE = "in a box, behind an escape"

OF_LENGTH = 2
OF_LABEL = 1
OF_CHECK = 2


class Belt:
    def __init__(self, place, phase, start, inside):
        self.place = place
        self.phase = phase
        self.start = start
        self.inside = inside

    def twin(self):
        return Belt(self.place, self.phase, self.start, list(self.inside))

    def box_is_unfinished(self):
        return self.phase == IN_BOX or self.phase == BEHIND_ESCAPE

    def tell_fault(self, word):
        return [("fault", word, self.place)]

    def tell_unfinished(self, word):
        return self.tell_fault(word) if self.box_is_unfinished() else []

    def pass_over(self, word):
        self.phase = PASSING_OVER
        return self.tell_fault(word)

    def begin_box(self):
        told = self.tell_unfinished("cut")
        self.phase = IN_BOX
        self.start = self.place
        self.inside = []
        return told

    def end_box(self):
        self.phase = AT_REST
        ahead = self.inside[:-OF_CHECK]
        if check_of(ahead) != self.inside[-OF_CHECK:]:
            return self.tell_fault("check")
        return [("box", ahead[OF_LENGTH], ahead[OF_LENGTH + OF_LABEL :], self.start, self.place)]

    def put_in(self, number, most):
        self.inside.append(number)
        come = len(self.inside)
        if come < OF_LENGTH:
            return []
        length = length_of_two(self.inside[0], self.inside[1])
        if come == OF_LENGTH and length > most:
            return self.pass_over("great")
        if come == OF_LENGTH + OF_LABEL + length + OF_CHECK:
            return self.end_box()
        return []

    def put_in_escaped(self, number, most):
        meaning = meaning_behind_escape(number)
        if meaning is None:
            return self.pass_over("escape")
        self.phase = IN_BOX
        return self.put_in(meaning, most)

    def take(self, number, most):
        # 126 comes first: it begins a box even behind an escape and where numbers are passed over.
        if number == BEGINNING:
            return self.begin_box()
        if self.phase == AT_REST:
            return self.pass_over("stray")
        if self.phase == PASSING_OVER:
            return []
        if self.phase == BEHIND_ESCAPE:
            return self.put_in_escaped(number, most)
        if number == ESCAPE:
            self.phase = BEHIND_ESCAPE
            return []
        return self.put_in(number, most)


def begun():
    return Belt(0, AT_REST, 0, [])


def fed(state, piece, most):
    refuse_other_numbers(piece)
    # The state that was handed in may be fed again with another piece, so only its twin goes on.
    belt = state.twin()
    told = []
    for number in piece:
        told.extend(belt.take(number, most))
        belt.place = belt.place + 1
    return (belt, told)


def ended(state):
    return state.tell_unfinished("end")


def told_by(pieces, most):
    state = begun()
    told = []
    for piece in pieces:
        step = fed(state, piece, most)
        state = step[0]
        told.extend(step[1])
    told.extend(ended(state))
    return told
