"""A level's page: written from the level, and read again where it is right for it."""

from keydesk.levels import GENERAL, Level, pistons_in_order
from keydesk.octets import has_bit, has_right_check, low_first, number_at, with_check

LEVEL_PLACE = 0
ZERO_PLACE = 1
# The generals' two octets and the divisions' four, low octet first, are one row of bits in the pistons' order.
FILLED_PLACE = 2
FILLED_SIZE = 6
COUNT_PLACE = 8
COUNT_SIZE = 4
CONTENTS_PLACE = 12
STOPS_SIZE = 8
COUPLERS_SIZE = 4
NOTHING = (0, 0)


def page_of(level, level_number):
    filled = 0
    contents = []
    for place, piston in enumerate(pistons_in_order()):
        if piston in level.contents:
            filled = filled | (1 << place)
        contents.extend(octets_of(piston, level.contents.get(piston, NOTHING)))
    octets = [level_number, 0] + low_first(filled, FILLED_SIZE) + low_first(level.count, COUNT_SIZE)
    return with_check(octets + contents)


def octets_of(piston, brought):
    stops = low_first(brought[0], STOPS_SIZE)
    if piston[0] == GENERAL:
        return stops + low_first(brought[1], COUPLERS_SIZE)
    return stops


def level_told_by(page, level_number, masks):
    """The level as the page tells it, or None where the page isn't right for this level."""
    if not has_right_check(page):
        return None
    if page[LEVEL_PLACE] != level_number or page[ZERO_PLACE] != 0:
        return None
    level = Level()
    level.count = number_at(page, COUNT_PLACE, COUNT_SIZE)
    filled = number_at(page, FILLED_PLACE, FILLED_SIZE)
    brought = contents_told_by(page)
    for place, piston in enumerate(pistons_in_order()):
        if has_bit(filled, place):
            if not may_bring(piston, brought[place], masks):
                return None
            level.contents[piston] = brought[place]
        elif brought[place] != NOTHING:
            return None
    return level


def contents_told_by(page):
    """Of each piston in order, an empty one too, the stops and couplers that stand in its place."""
    found = []
    place = CONTENTS_PLACE
    for piston in pistons_in_order():
        stops = number_at(page, place, STOPS_SIZE)
        place += STOPS_SIZE
        couplers = 0
        if piston[0] == GENERAL:
            couplers = number_at(page, place, COUPLERS_SIZE)
            place += COUPLERS_SIZE
        found.append((stops, couplers))
    return found


def may_bring(piston, brought, masks):
    """Whether a divisional brings stops of its division's alone."""
    kind = piston[0]
    return kind == GENERAL or brought[0] & ~masks[kind - 1] == 0
