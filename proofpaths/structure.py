"""The calls on one object, which holds a structure, and their answers."""

from proofpaths.drawing import draws_together
from proofpaths.formula import dual
from proofpaths.parts import parts_form, parts_refusal, read_parts
from proofpaths.places import conclusion_atom_at, spot_of
from proofpaths.points import Points
from proofpaths.sending import Token, play
from proofpaths.signs import as_bytes
from proofpaths.switchings import MOST_JUNCTIONS, first_bad_switching, is_net

FIRST_TEXT = "a, ~a ; ; 0-1"

SET = 0
FORM = 1
SIZE = 2
NEXT = 3
TRIP = 4
PATH = 5
TEST = 6
BAD = 7
TOKEN = 8
PLAY = 9
PLACE = 10

# By a call's number: how many whole numbers it has, and how many rows behind them.
NUMBER_COUNTS = (0, 0, 0, 1, 1, 0, 0, 0, 1, 3, 1, 0)
ROW_COUNTS = (1, 0, 0, 1, 1, 1, 0, 0, 1, 2, 0, 0)

NO_SWITCHING = -1
NOT_THERE = -4
TOO_MANY_JUNCTIONS = -7
NOT_DUAL = -8


def answers(calls):
    """For each of the calls, one behind another: how many numbers it answers; then they."""
    holder = Holder()
    given = []
    at = 0
    while at < len(calls):
        call = Call(calls, at)
        answer = holder.answer(call)
        given.append(len(answer))
        given.extend(answer)
        at = call.end
    return given


class Call:
    """The call that begins at a place in the list; end is the place behind it."""

    def __init__(self, calls, at):
        self.kind = calls[at]
        self.end = at + 1 + NUMBER_COUNTS[self.kind]
        self.numbers = calls[at + 1:self.end]
        self.rows = []
        for row in range(ROW_COUNTS[self.kind]):
            begin = self.end + 1
            self.end = begin + calls[begin - 1]
            self.rows.append(calls[begin:self.end])


class Holder:
    """Holds a structure: its parts, and its points."""

    def __init__(self):
        self.parts = read_parts(as_bytes(FIRST_TEXT))
        self.points = Points(self.parts)

    def answer(self, call):
        if call.kind == SET:
            return self.answer_set(call.rows[0])
        if call.kind == FORM:
            return self.answer_form()
        if call.kind == SIZE:
            return self.answer_size()
        if call.kind == NEXT:
            return self.answer_next(call.numbers[0], call.rows[0])
        if call.kind == TRIP:
            return self.answer_trip(call.numbers[0], call.rows[0])
        if call.kind == PATH:
            return self.answer_path(call.rows[0])
        if call.kind == TEST:
            return self.answer_test()
        if call.kind == BAD:
            return self.answer_bad()
        if call.kind == TOKEN:
            return self.answer_token(call.numbers[0], call.rows[0])
        if call.kind == PLAY:
            return self.answer_play(call.numbers, call.rows[0], call.rows[1])
        if call.kind == PLACE:
            return self.answer_place(call.numbers[0])
        return self.answer_draw()

    def answer_set(self, text):
        parts = read_parts(text)
        refusal = parts_refusal(parts)
        if refusal < 0:
            return [refusal]
        self.parts = parts
        self.points = Points(parts)
        return [len(parts.leaves())]

    def answer_form(self):
        form = parts_form(self.parts)
        return [len(form)] + form

    def answer_size(self):
        return [len(self.points.nodes), self.points.junction_count, self.points.passage_count()]

    def answer_next(self, passage, switching):
        refusal = self.travel_refusal(passage, switching)
        if refusal < 0:
            return [refusal]
        return [self.points.behind(passage, switching)]

    def answer_trip(self, passage, switching):
        refusal = self.travel_refusal(passage, switching)
        if refusal < 0:
            return [refusal]
        return [len(self.points.trip(passage, switching))]

    def answer_path(self, switching):
        # There's a passage 0 just if there are passages.
        refusal = self.travel_refusal(0, switching)
        if refusal < 0:
            return [refusal]
        trip = self.points.trip(0, switching)
        return [len(trip)] + trip

    def travel_refusal(self, passage, switching):
        if not self.points.has_passage(passage):
            return NOT_THERE
        if not self.points.is_switching(switching):
            return NO_SWITCHING
        return 0

    def answer_test(self):
        if self.points.junction_count > MOST_JUNCTIONS:
            return [TOO_MANY_JUNCTIONS]
        return [1 if is_net(self.points) else 0]

    def answer_bad(self):
        if self.points.junction_count > MOST_JUNCTIONS:
            return [TOO_MANY_JUNCTIONS]
        if not self.points.has_passage(0):
            return [NOT_THERE]
        switching = first_bad_switching(self.points)
        if switching is None:
            return [NOT_THERE]
        return [len(switching)] + switching + [len(self.points.trip(0, switching))]

    def answer_token(self, conclusion, place):
        point = conclusion_atom_at(self.points, conclusion, place)
        if point == -1:
            return [NOT_THERE]
        token = Token(point)
        token.go_through(self.points)
        return spot_of(self.points, token.point) + [token.cut_count]

    def answer_play(self, numbers, text, place):
        parts = read_parts(text)
        refusal = parts_refusal(parts)
        if refusal < 0:
            return [refusal]
        boards = [self.points, Points(parts)]
        meeting = numbers[:2]
        entered = numbers[2]
        point = conclusion_atom_at(self.points, entered, place)
        if point == -1 or entered == meeting[0] or not all_there(boards, meeting):
            return [NOT_THERE]
        if parts.conclusions[meeting[1]] != dual(self.parts.conclusions[meeting[0]]):
            return [NOT_DUAL]
        token = Token(point)
        play(token, boards, meeting)
        return [token.board] + spot_of(boards[token.board], token.point) + [token.crossing_count]

    def answer_place(self, leaf):
        leaves = self.points.leaf_points()
        if not 0 <= leaf < len(leaves):
            return [NOT_THERE]
        return spot_of(self.points, leaves[leaf])

    def answer_draw(self):
        return [1 if draws_together(self.points) else 0]


def all_there(boards, conclusions):
    """Whether each structure has the conclusion that stands beside it."""
    return all([points.has_conclusion(number) for points, number in zip(boards, conclusions)])
