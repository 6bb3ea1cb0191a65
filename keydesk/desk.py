"""The calls, told in one list of whole numbers, and their answers in another."""

from keydesk.pistons import Pistons
from keydesk.plan import Held, has_all_that_is_held, plan_as_told
from keydesk.speaking import answer_pipes, answer_why

PIPES = 0
WHY = 1
START = 10
HAND = 11
SET = 12
PRESS = 13
BACK = 14

NO_PLAN = -22
NOT_THERE = -71


class UnknownCall(ValueError):
    """A number that no call has."""


class Reader:
    """Walks the numbers of the calls; it changes none of them."""

    def __init__(self, numbers):
        self.numbers = numbers
        self.place = 0

    def has_more(self):
        return self.place < len(self.numbers)

    def take(self):
        number = self.numbers[self.place]
        self.place += 1
        return number

    def take_row(self):
        """The row at this place, which has its length before it."""
        length = self.take()
        row = self.numbers[self.place:self.place + length]
        self.place += length
        return row


class Desk:
    """What the calls of one list act on."""

    def __init__(self):
        self.pistons = Pistons()


def answers(calls):
    """The answers to all calls of the list, each with how many numbers it has before it."""
    return answer_all(Desk(), Reader(calls))


def answer_all(desk, reader):
    told = []
    while reader.has_more():
        answer = answer_call(desk, reader)
        told.append(len(answer))
        told.extend(answer)
    return told


def answer_call(desk, reader):
    call = reader.take()
    if call == PIPES or call == WHY:
        return answer_of_keys(call, reader)
    return [answer_of_pistons(call, desk.pistons, reader)]


def answer_of_keys(call, reader):
    divisions = reader.take()
    held_stops = reader.take()
    held_couplers = reader.take()
    off = reader.take()
    rank = reader.take() if call == WHY else 0
    pipe = reader.take() if call == WHY else 0
    pipes = reader.take_row()
    stop_numbers = reader.take_row()
    coupler_numbers = reader.take_row()
    held = Held(reader.take_row(), held_stops, held_couplers, off)
    plan = plan_as_told(divisions, pipes, stop_numbers, coupler_numbers)
    if plan is None:
        return [NO_PLAN]
    if not has_all_that_is_held(plan, held):
        return [NOT_THERE]
    return answer_why(plan, held, rank, pipe) if call == WHY else answer_pipes(plan, held)


def answer_of_pistons(call, pistons, reader):
    if call == START:
        return pistons.start_with(reader.take_row())
    if call == HAND:
        stops = reader.take()
        return pistons.draw_by_hand(stops, reader.take())
    if call == BACK:
        return pistons.go_back()
    if call != SET and call != PRESS:
        raise UnknownCall(f"no such call: {call}")
    level_number = reader.take()
    kind = reader.take()
    n = reader.take()
    if call == SET:
        return pistons.set_piston(level_number, kind, n)
    return pistons.press_piston(level_number, kind, n)
