"""A plan of an organ (divisions, ranks, stops, couplers), and what is held at its console."""

MOST_DIVISIONS = 4
MOST_RANKS = 16
MOST_PIPES = 97
MOST_STOPS = 64
MOST_COUPLERS = 32
LAST_KEY = 60
ALL_KEYS = 0x1FFFFFFFFFFFFFFF
LEAST_SHIFT = -60
GREATEST_SHIFT = 96
COUPLER_SHIFTS = (-12, 0, 12)
NUMBERS_OF_A_STOP = 5
NUMBERS_OF_A_COUPLER = 3


class Stop:
    """One division's stop, that speaks by one rank at the keys low to high."""

    def __init__(self, row):
        self.division = row[0]
        self.rank = row[1]
        self.low = row[2]
        self.high = row[3]
        self.shift = row[4]


class Coupler:
    """A coupler that leads from the source division to the target division."""

    def __init__(self, row):
        self.source = row[0]
        self.target = row[1]
        self.shift = row[2]


class Plan:
    """Divisions, how many pipes each rank has, stops and couplers, each numbered from 0."""

    def __init__(self, divisions, pipes, stops, couplers):
        self.divisions = divisions
        self.pipes = pipes
        self.stops = stops
        self.couplers = couplers


class Held:
    """What is held: a set of keys for each of four divisions, stops, couplers, divisions off."""

    def __init__(self, key_sets, stops, couplers, off):
        self.key_sets = key_sets
        self.stops = stops
        self.couplers = couplers
        self.off = off


def rows_of(numbers, size):
    return [numbers[k:k + size] for k in range(0, len(numbers), size)]


def plan_as_told(divisions, pipes, stop_numbers, coupler_numbers):
    """The plan, or None where it is no plan."""
    # A last stop or coupler that is cut short can't be told: it is checked before any is made.
    if len(stop_numbers) % NUMBERS_OF_A_STOP != 0:
        return None
    if len(coupler_numbers) % NUMBERS_OF_A_COUPLER != 0:
        return None
    stops = [Stop(row) for row in rows_of(stop_numbers, NUMBERS_OF_A_STOP)]
    couplers = [Coupler(row) for row in rows_of(coupler_numbers, NUMBERS_OF_A_COUPLER)]
    plan = Plan(divisions, pipes, stops, couplers)
    return plan if is_plan(plan) else None


def is_plan(plan):
    if not has_right_sizes(plan):
        return False
    for stop in plan.stops:
        if not is_stop_of(plan, stop):
            return False
    for coupler in plan.couplers:
        if not is_coupler_of(plan, coupler):
            return False
    return True


def has_right_sizes(plan):
    if not 1 <= plan.divisions <= MOST_DIVISIONS:
        return False
    if not 1 <= len(plan.pipes) <= MOST_RANKS:
        return False
    if not 1 <= len(plan.stops) <= MOST_STOPS:
        return False
    if len(plan.couplers) > MOST_COUPLERS:
        return False
    for count in plan.pipes:
        if not 1 <= count <= MOST_PIPES:
            return False
    return True


def is_stop_of(plan, stop):
    if not 0 <= stop.division < plan.divisions:
        return False
    if not 0 <= stop.rank < len(plan.pipes):
        return False
    if not 0 <= stop.low <= stop.high <= LAST_KEY:
        return False
    return LEAST_SHIFT <= stop.shift <= GREATEST_SHIFT


def is_coupler_of(plan, coupler):
    if not 0 <= coupler.source < plan.divisions:
        return False
    if not 0 <= coupler.target < plan.divisions:
        return False
    if coupler.shift not in COUPLER_SHIFTS:
        return False
    return coupler.source != coupler.target or coupler.shift != 0


def has_all_that_is_held(plan, held):
    """Whether every key, stop, coupler and division that is held is there."""
    for division, keys_there in enumerate(held.key_sets):
        if keys_there > ALL_KEYS:
            return False
        if keys_there != 0 and division >= plan.divisions:
            return False
    if held.stops >> len(plan.stops) != 0:
        return False
    if held.couplers >> len(plan.couplers) != 0:
        return False
    return held.off >> plan.divisions == 0
