"""Pistons: what is drawn now, and what the pistons bring, level by level."""

from keydesk.levels import DIVISIONS, GENERAL, GREATEST_COUNT, LEVELS, Level, is_level, is_piston
from keydesk.pages import level_told_by, page_of

WRONG = -22
EMPTY = -2
COUNT_IS_FULL = -28
FROM_NEITHER = 0
FROM_FIRST = 1
FROM_SECOND = 2


class Pistons:
    """What is drawn now, what was drawn before the last piston, the masks and the levels."""

    def __init__(self):
        self.begin_anew([0 for division in range(DIVISIONS)])

    def begin_anew(self, masks):
        self.masks = list(masks)
        self.stops = 0
        self.couplers = 0
        self.before = None
        self.levels = [Level() for number in range(LEVELS)]

    def start_with(self, masks):
        if have_common_stop(masks):
            return WRONG
        self.begin_anew(masks)
        return 0

    def draw_by_hand(self, stops, couplers):
        self.stops = stops
        self.couplers = couplers
        return 0

    def set_piston(self, level_number, kind, n):
        if not is_piston(level_number, kind, n):
            return WRONG
        level = self.levels[level_number]
        if level.count == GREATEST_COUNT:
            return COUNT_IS_FULL
        level.contents[(kind, n)] = self.drawn_for(kind)
        level.count += 1
        return 0

    def drawn_for(self, kind):
        """What a piston of this kind takes of what is drawn: stops and couplers."""
        if kind == GENERAL:
            return (self.stops, self.couplers)
        return (self.stops & self.masks[kind - 1], 0)

    def press_piston(self, level_number, kind, n):
        if not is_piston(level_number, kind, n):
            return WRONG
        brought = self.levels[level_number].contents.get((kind, n))
        if brought is None:
            return EMPTY
        self.before = (self.stops, self.couplers)
        if kind == GENERAL:
            self.stops = brought[0]
            self.couplers = brought[1]
        else:
            self.stops = (self.stops & ~self.masks[kind - 1]) | brought[0]
        return 0

    def go_back(self):
        if self.before is None:
            return EMPTY
        self.stops = self.before[0]
        self.couplers = self.before[1]
        self.before = None
        return 0

    def tell_page(self, level_number):
        if not is_level(level_number):
            return [WRONG]
        return [0] + page_of(self.levels[level_number], level_number)

    def load_level(self, level_number, first_page, second_page):
        if not is_level(level_number):
            return WRONG
        first = level_told_by(first_page, level_number, self.masks)
        second = level_told_by(second_page, level_number, self.masks)
        if first is not None and (second is None or second.count <= first.count):
            self.levels[level_number] = first
            return FROM_FIRST
        if second is not None:
            self.levels[level_number] = second
            return FROM_SECOND
        self.levels[level_number] = Level()
        return FROM_NEITHER


def have_common_stop(masks):
    seen = 0
    for mask in masks:
        if seen & mask != 0:
            return True
        seen = seen | mask
    return False
