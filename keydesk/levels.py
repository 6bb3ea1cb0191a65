"""Levels: what was set on their pistons, and which pistons there are."""

DIVISIONS = 4
LEVELS = 8
GENERAL = 0
GENERALS = 16
DIVISIONALS = 8
GREATEST_COUNT = 0xFFFFFFFF


class Level:
    """What was set on a level's pistons, and how often."""

    def __init__(self):
        self.count = 0
        # By (kind, n), stops and couplers of the pistons that aren't empty: nothing drawn isn't empty.
        self.contents = {}


def is_level(level_number):
    return level_number < LEVELS


def is_piston(level_number, kind, n):
    if not is_level(level_number) or kind > DIVISIONS:
        return False
    return n < (GENERALS if kind == GENERAL else DIVISIONALS)


def pistons_in_order():
    """Every piston of a level as (kind, n): the generals, then the divisionals division by division."""
    found = [(GENERAL, n) for n in range(GENERALS)]
    for division in range(DIVISIONS):
        found.extend([(division + 1, n) for n in range(DIVISIONALS)])
    return found
