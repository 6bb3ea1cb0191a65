"""The calls, told in one list of whole numbers, and their answers in another."""

from keydesk.chamber import Chamber, message_of
from keydesk.pistons import Pistons
from keydesk.plan import Held, has_all_that_is_held, plan_as_told
from keydesk.speaking import answer_pipes, answer_why

PIPES = 0
WHY = 1
START = 10
HAND = 11
SET = 12
PRESS = 13
BACK = 14
NOW = 15
PAGE = 16
LOAD = 17
SAY = 20
START_CHAMBER = 21
TICK = 22

NO_PLAN = -22
NOT_THERE = -71


class UnknownCall(ValueError):
    """A number that no call has."""


class Reader:
    """Walks the numbers of the calls; it changes none of them."""

    def __init__(self, numbers):
        self.numbers = numbers
        self.place = 0

    def has_more(self):
        return self.place < len(self.numbers)

    def take(self):
        number = self.numbers[self.place]
        self.place += 1
        return number

    def take_row(self):
        """The row at this place, which has its length before it."""
        length = self.take()
        row = self.numbers[self.place:self.place + length]
        self.place += length
        return row


class Desk:
    """What the calls of one list act on."""

    def __init__(self):
        self.pistons = Pistons()
        self.chamber = Chamber()


def answers(calls):
    """The answers to all calls of the list, each with how many numbers it has before it."""
    return answer_all(Desk(), Reader(calls))


def answer_all(desk, reader):
    told = []
    while reader.has_more():
        answer = answer_call(desk, reader)
        told.append(len(answer))
        told.extend(answer)
    return told


def answer_call(desk, reader):
    call = reader.take()
    if call == PIPES or call == WHY:
        return answer_of_keys(call, reader)
    if START <= call <= LOAD:
        return answer_of_pistons(call, desk.pistons, reader)
    if SAY <= call <= TICK:
        return answer_of_chamber(call, desk.chamber, reader)
    raise UnknownCall(f"no such call: {call}")


def answer_of_keys(call, reader):
    divisions = reader.take()
    held_stops = reader.take()
    held_couplers = reader.take()
    off = reader.take()
    rank = reader.take() if call == WHY else 0
    pipe = reader.take() if call == WHY else 0
    pipes = reader.take_row()
    stop_numbers = reader.take_row()
    coupler_numbers = reader.take_row()
    held = Held(reader.take_row(), held_stops, held_couplers, off)
    plan = plan_as_told(divisions, pipes, stop_numbers, coupler_numbers)
    if plan is None:
        return [NO_PLAN]
    if not has_all_that_is_held(plan, held):
        return [NOT_THERE]
    return answer_why(plan, held, rank, pipe) if call == WHY else answer_pipes(plan, held)


def answer_of_pistons(call, pistons, reader):
    if call == SET or call == PRESS:
        return [answer_of_a_piston(call, pistons, reader)]
    if call == NOW:
        return [0, pistons.stops, pistons.couplers]
    if call == PAGE:
        return pistons.tell_page(reader.take())
    if call == START:
        return [pistons.start_with(reader.take_row())]
    if call == BACK:
        return [pistons.go_back()]
    if call == HAND:
        stops = reader.take()
        return [pistons.draw_by_hand(stops, reader.take())]
    level_number = reader.take()
    first_page = reader.take_row()
    return [pistons.load_level(level_number, first_page, reader.take_row())]


def answer_of_a_piston(call, pistons, reader):
    level_number = reader.take()
    kind = reader.take()
    n = reader.take()
    if call == SET:
        return pistons.set_piston(level_number, kind, n)
    return pistons.press_piston(level_number, kind, n)


def answer_of_chamber(call, chamber, reader):
    if call == SAY:
        return answer_say(reader)
    if call == START_CHAMBER:
        chamber.start_anew()
        return [0]
    return chamber.hear_tick(reader.take_row())


def answer_say(reader):
    stops = reader.take()
    couplers = reader.take()
    off = reader.take()
    number = reader.take()
    return [0] + message_of(number, reader.take_row() + [stops, couplers, off])
