"""The calls on one object, which holds a structure, and their answers."""

from proofpaths.parts import parts_form, parts_refusal, read_parts
from proofpaths.points import Points
from proofpaths.signs import as_bytes

FIRST_TEXT = "a, ~a ; ; 0-1"

SET = 0
FORM = 1
SIZE = 2
NEXT = 3
TRIP = 4
PATH = 5

# By a call's number: how many whole numbers it has, and how many rows behind them.
NUMBER_COUNTS = (0, 0, 0, 1, 1, 0)
ROW_COUNTS = (1, 0, 0, 1, 1, 1)

NO_SWITCHING = -1
NOT_THERE = -4


def answers(calls):
    """For each of the calls, one behind another: how many numbers it answers; then they."""
    holder = Holder()
    given = []
    at = 0
    while at < len(calls):
        call = Call(calls, at)
        answer = holder.answer(call)
        given.append(len(answer))
        given.extend(answer)
        at = call.end
    return given


class Call:
    """The call that begins at a place in the list; end is the place behind it."""

    def __init__(self, calls, at):
        self.kind = calls[at]
        self.end = at + 1 + NUMBER_COUNTS[self.kind]
        self.numbers = calls[at + 1:self.end]
        self.rows = []
        for row in range(ROW_COUNTS[self.kind]):
            begin = self.end + 1
            self.end = begin + calls[begin - 1]
            self.rows.append(calls[begin:self.end])


class Holder:
    """Holds a structure: its parts, and its points."""

    def __init__(self):
        self.parts = read_parts(as_bytes(FIRST_TEXT))
        self.points = Points(self.parts)

    def answer(self, call):
        if call.kind == SET:
            return self.answer_set(call.rows[0])
        if call.kind == FORM:
            return self.answer_form()
        if call.kind == SIZE:
            return self.answer_size()
        if call.kind == NEXT:
            return self.answer_next(call.numbers[0], call.rows[0])
        if call.kind == TRIP:
            return self.answer_trip(call.numbers[0], call.rows[0])
        return self.answer_path(call.rows[0])

    def answer_set(self, text):
        parts = read_parts(text)
        refusal = parts_refusal(parts)
        if refusal < 0:
            return [refusal]
        self.parts = parts
        self.points = Points(parts)
        return [len(parts.leaves())]

    def answer_form(self):
        form = parts_form(self.parts)
        return [len(form)] + form

    def answer_size(self):
        return [len(self.points.nodes), self.points.junction_count, self.points.passage_count()]

    def answer_next(self, passage, switching):
        refusal = self.travel_refusal(passage, switching)
        if refusal < 0:
            return [refusal]
        return [self.points.behind(passage, switching)]

    def answer_trip(self, passage, switching):
        refusal = self.travel_refusal(passage, switching)
        if refusal < 0:
            return [refusal]
        return [len(self.points.trip(passage, switching))]

    def answer_path(self, switching):
        # There's a passage 0 just if there are passages.
        refusal = self.travel_refusal(0, switching)
        if refusal < 0:
            return [refusal]
        trip = self.points.trip(0, switching)
        return [len(trip)] + trip

    def travel_refusal(self, passage, switching):
        if passage < 0 or passage >= self.points.passage_count():
            return NOT_THERE
        if not self.points.is_switching(switching):
            return NO_SWITCHING
        return 0
