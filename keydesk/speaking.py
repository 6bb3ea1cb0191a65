"""Which keys sound, which pipes speak, and why."""

from keydesk.octets import has_bit
from keydesk.plan import ALL_KEYS, MOST_RANKS

DOES_NOT_SPEAK = -2
HELD_ITSELF = 255
LOW_PIPES = 64
LOW_PIPE_BITS = 0xFFFFFFFFFFFFFFFF


def shifted(bits, shift):
    return bits << shift if shift >= 0 else bits >> -shift


def bits_between(low, high):
    return ((1 << (high - low + 1)) - 1) << low


def count_of_bits(bits):
    count = 0
    while bits > 0:
        count += bits & 1
        bits = bits >> 1
    return count


def sounding_keys(plan, held, division):
    """The set of keys that sound on a division."""
    sounding = 0 if has_bit(held.off, division) else held.key_sets[division]
    for number, coupler in enumerate(plan.couplers):
        if has_bit(held.couplers, number) and coupler.target == division:
            # From the keys held, not from those that sound, and though the source be off.
            led = shifted(held.key_sets[coupler.source], coupler.shift)
            sounding = sounding | (led & ALL_KEYS)
    return sounding


def speaking_pipes(plan, held):
    """Of each rank of the plan the set of its pipes that speak."""
    sounding = [sounding_keys(plan, held, division) for division in range(plan.divisions)]
    speaking = [0 for rank in plan.pipes]
    for number, stop in enumerate(plan.stops):
        if has_bit(held.stops, number):
            played = sounding[stop.division] & bits_between(stop.low, stop.high)
            there = bits_between(0, plan.pipes[stop.rank] - 1)
            speaking[stop.rank] = speaking[stop.rank] | (shifted(played, stop.shift) & there)
    return speaking


def answer_pipes(plan, held):
    """How many pipes speak, and two numbers of bits for each of the sixteen ranks."""
    speaking = speaking_pipes(plan, held)
    answer = [sum([count_of_bits(bits) for bits in speaking])]
    for rank in range(MOST_RANKS):
        bits = speaking[rank] if rank < len(speaking) else 0
        answer.append(bits & LOW_PIPE_BITS)
        answer.append(bits >> LOW_PIPES)
    return answer


def leads_to(coupler, held, division, key):
    """Whether a coupler that is held makes this key sound on this division."""
    if coupler.target != division:
        return False
    origin = key - coupler.shift
    return origin >= 0 and has_bit(held.key_sets[coupler.source], origin)


def cause_of_key(plan, held, division, key):
    """255 or the least coupler by which the key sounds, and the key that is held; None if it doesn't sound."""
    if has_bit(held.key_sets[division], key) and not has_bit(held.off, division):
        return [HELD_ITSELF, key]
    for number, coupler in enumerate(plan.couplers):
        if has_bit(held.couplers, number) and leads_to(coupler, held, division, key):
            return [number, key - coupler.shift]
    return None


def answer_why(plan, held, rank, pipe):
    """0 and the reason why a pipe speaks, or the refusal."""
    if rank >= len(plan.pipes) or pipe >= plan.pipes[rank]:
        return [DOES_NOT_SPEAK]
    for number, stop in enumerate(plan.stops):
        # A stop leads one key alone to a pipe: that is its least, too.
        key = pipe - stop.shift
        if has_bit(held.stops, number) and stop.rank == rank and stop.low <= key <= stop.high:
            cause = cause_of_key(plan, held, stop.division, key)
            if cause is not None:
                return [0, number, key] + cause
    return [DOES_NOT_SPEAK]
