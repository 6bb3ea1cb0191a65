"""A console's state over a line: messages, and the chamber that goes by the newest it has heard."""

from keydesk.octets import has_right_check, low_first, number_at, with_check

WRONG = -22
NOT_TAKEN = 0
TAKEN = 1
MESSAGE_SIZE = 56
NUMBER_SIZE = 4
# What's held, number by number: four sets of keys, the stops, the couplers, the divisions off.
HELD_SIZES = (8, 8, 8, 8, 8, 4, 4)
NUMBERS = 0x100000000
NEWER_BELOW = 0x80000000
SILENT_AGE = 50


class Chamber:
    """What the chamber goes by, the number of the message that told it, and its age in ticks."""

    def __init__(self):
        self.start_anew()

    def start_anew(self):
        self.fall_silent()
        self.age = SILENT_AGE

    def fall_silent(self):
        self.gone_by = [0 for size in HELD_SIZES]
        self.number = None

    def hear_tick(self, message):
        if len(message) != 0 and len(message) != MESSAGE_SIZE:
            return [WRONG]
        if self.is_to_be_taken(message):
            self.gone_by = held_told_by(message)
            self.number = number_of(message)
            self.age = 0
            return [TAKEN] + self.gone_by
        self.grow_older()
        return [NOT_TAKEN] + self.gone_by

    def is_to_be_taken(self, message):
        if len(message) == 0 or not has_right_check(message):
            return False
        return self.number is None or is_newer(number_of(message), self.number)

    def grow_older(self):
        self.age = min(self.age + 1, SILENT_AGE)
        if self.age == SILENT_AGE:
            self.fall_silent()


def is_newer(number, known):
    """Whether a number is ahead of the known one, where numbers go round."""
    return 1 <= (number - known) % NUMBERS < NEWER_BELOW


def message_of(number, held):
    octets = low_first(number, NUMBER_SIZE)
    for part, size in zip(held, HELD_SIZES):
        octets.extend(low_first(part, size))
    return with_check(octets)


def number_of(message):
    return number_at(message, 0, NUMBER_SIZE)


def held_told_by(message):
    held = []
    place = NUMBER_SIZE
    for size in HELD_SIZES:
        held.append(number_at(message, place, size))
        place += size
    return held
