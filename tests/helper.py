"""Makes calls for the tests, takes answers apart, and tells anew what the document says of keys, pages, messages."""

import random
import struct

from keydesk.desk import answers

ALL_KEYS = 2 ** 61 - 1
ALL_64 = 2 ** 64 - 1
ALL_32 = 2 ** 32 - 1


def row(numbers):
    return [len(numbers), *numbers]


def bits(*numbers):
    return sum(1 << number for number in set(numbers))


def split(told):
    """The answers, a list each."""
    parts = []
    place = 0
    while place < len(told):
        end = place + 1 + told[place]
        assert end <= len(told), (place, told[place])
        parts.append(told[place + 1:end])
        place = end
    return parts


def ask(*calls):
    return split(answers([number for call in calls for number in call]))


# Part 1

class Organ:
    """A plan and what's held; by itself a small right one, on which nothing is held."""

    def __init__(self, **changes):
        self.divisions = 2
        self.pipes = [61, 73]
        self.stops = [(0, 0, 0, 60, 0), (1, 1, 0, 60, 12)]
        self.couplers = [(1, 0, 0), (0, 0, 12)]
        self.keys = [0, 0, 0, 0]
        self.held_stops = 0
        self.held_couplers = 0
        self.off = 0
        self.__dict__.update(changes)

    def but(self, **changes):
        return Organ(**{**self.__dict__, **changes})

    def rows(self):
        stops = [number for stop in self.stops for number in stop]
        couplers = [number for coupler in self.couplers for number in coupler]
        return row(self.pipes) + row(stops) + row(couplers) + row(self.keys)

    def pipes_call(self):
        return [0, self.divisions, self.held_stops, self.held_couplers, self.off] + self.rows()

    def why_call(self, rank=0, pipe=0):
        return [1, self.divisions, self.held_stops, self.held_couplers, self.off, rank, pipe] + self.rows()

    def speaking(self):
        """What pipes answers, as (rank, pipe)."""
        (answer,) = ask(self.pipes_call())
        assert len(answer) == 33, answer
        there = set()
        for place, number in enumerate(answer[1:]):
            there |= {(place // 2, bit + 64 * (place % 2)) for bit in range(number.bit_length()) if number >> bit & 1}
        assert answer[0] == len(there), answer
        return there

    def why(self, rank, pipe):
        (answer,) = ask(self.why_call(rank, pipe))
        return answer

    # What the document says, key by key.

    def is_held(self, division, key):
        return 0 <= key <= 60 and self.keys[division] >> key & 1 == 1

    def causes(self, division, key):
        """Every way in which a key sounds: 255 or a coupler, and the key that's held."""
        found = []
        if self.is_held(division, key) and not self.off >> division & 1:
            found.append((255, key))
        for number, (source, target, shift) in enumerate(self.couplers):
            if self.held_couplers >> number & 1 and target == division and self.is_held(source, key - shift):
                found.append((number, key - shift))
        return found

    def reasons(self):
        """Of each pipe that speaks every reason: stop, key, 255 or coupler, key held; the first to tell comes first."""
        found = {}
        for number, (division, rank, low, high, shift) in enumerate(self.stops):
            if self.held_stops >> number & 1:
                for key in range(low, high + 1):
                    if 0 <= key + shift < self.pipes[rank]:
                        for cause in self.causes(division, key):
                            found.setdefault((rank, key + shift), []).append((number, key) + cause)
        return found


def random_bits(source, size):
    return source.choice([0, (1 << size) - 1, source.getrandbits(size) if size else 0])


def random_organ(source):
    divisions = source.randint(1, 4)
    pipes = [source.choice([1, 12, 61, 64, 65, 73, 97, source.randint(1, 97)]) for _ in range(source.randint(1, 16))]
    stops = []
    for _ in range(source.randint(1, 12)):
        low, high = sorted([source.randint(0, 60), source.randint(0, 60)])
        shift = source.choice([0, 12, -12, source.randint(-60, 96)])
        stops.append((source.randrange(divisions), source.randrange(len(pipes)), low, high, shift))
    couplers = []
    for _ in range(source.randint(0, 8)):
        ends = (source.randrange(divisions), source.randrange(divisions))
        couplers.append(ends + (source.choice([-12, 12] if ends[0] == ends[1] else [-12, 0, 12]),))
    keys = [0, 0, 0, 0]
    for division in range(divisions):
        keys[division] = source.choice([0, bits(*[source.randint(0, 60) for _ in range(4)]), random_bits(source, 61)])
    return Organ(divisions=divisions, pipes=pipes, stops=stops, couplers=couplers, keys=keys,
                 held_stops=random_bits(source, len(stops)), held_couplers=random_bits(source, len(couplers)),
                 off=random_bits(source, divisions))


def random_organs(seed, how_many):
    source = random.Random(seed)
    return [random_organ(source) for _ in range(how_many)]


# Part 2

MASKS = [bits(0, 1, 2, 3), bits(8, 9, 10, 11), 0, bits(62, 63)]


def start(masks=None):
    return [10] + row(MASKS if masks is None else masks)


def hand(stops, couplers=0):
    return [11, stops, couplers]


def set_on(level, kind, n):
    return [12, level, kind, n]


def press(level, kind, n):
    return [13, level, kind, n]


BACK = [14]
NOW = [15]


def page(level):
    return [16, level]


def load(level, a, b):
    return [17, level] + row(a) + row(b)


def drawn_after(*calls):
    """What now answers behind these calls: stops and couplers."""
    answer = ask(*calls, NOW)[-1]
    assert len(answer) == 3 and answer[0] == 0, answer
    return tuple(answer[1:])


def whole_after(*calls):
    """All that the pistons have behind these calls: what's drawn, the pages, what was before, the masks."""
    to_see_masks = [hand(ALL_64), *[set_on(6, kind, 0) for kind in (1, 2, 3, 4)], page(6)]
    probes = [NOW, *[page(level) for level in range(8)], BACK, NOW, *to_see_masks]
    return ask(*calls, *probes)[len(calls):]


def crc_32c(octets):
    """By long division from the high bit, over the bits of each byte turned about."""
    size = 8 * len(octets)
    rest = int("".join(f"{octet:08b}"[::-1] for octet in octets), 2) << 32 ^ ALL_32 << size
    for place in reversed(range(size)):
        if rest >> 32 + place & 1:
            rest ^= 0x11EDC6F41 << place
    return int(f"{rest ^ ALL_32:032b}"[::-1], 2)


def checked(octets):
    """These bytes, with the check that fits them behind."""
    return [*octets, *struct.pack("<I", crc_32c(octets))]


PISTONS = [(kind, n) for kind in range(5) for n in range(8 if kind else 16)]


def page_told(level, count=0, contents=None, second=0, hidden=None):
    """A page; contents are stops and couplers by (kind, n), hidden is what stands at empty ones."""
    contents = contents or {}
    there = {**contents, **(hidden or {})}
    filled = [bits(*[n for its_kind, n in contents if its_kind == kind]) for kind in range(5)]
    told = struct.pack("<BBH4BI", level, second, *filled, count)
    for piston in PISTONS:
        stops, couplers = there.get(piston, (0, 0))
        told += struct.pack("<Q", stops) if piston[0] else struct.pack("<QI", stops, couplers)
    return checked(told)


def level_told(octets, level, masks):
    """Count and contents that a page tells, or None where it isn't right for the level."""
    fields = struct.unpack("<BBH4BI" + "QI" * 16 + "32QI", bytes(octets))
    filled, count, generals, divisionals = fields[2:7], fields[7], fields[8:40], fields[40:72]
    contents = {}
    for kind, n in PISTONS:
        if filled[kind] >> n & 1:
            contents[kind, n] = generals[2 * n:2 * n + 2] if kind == 0 else (divisionals[8 * kind - 8 + n], 0)
    if any(kind and stops & ~masks[kind - 1] for (kind, n), (stops, couplers) in contents.items()):
        return None
    return (count, contents) if page_told(level, count, contents) == list(octets) else None


def random_contents(source, masks):
    """Something for some pistons of a level."""
    contents = {}
    for kind, n in source.sample(PISTONS, source.choice([0, 1, 5, 48])):
        stops = source.choice([0, ALL_64, source.getrandbits(64)])
        contents[kind, n] = (stops & masks[kind - 1], 0) if kind else (stops, source.getrandbits(32))
    return contents


# Part 3

START_CHAMBER = [21]
NOTHING_HELD = [0] * 7
ALL_HELD = [ALL_64] * 5 + [ALL_32] * 2


def say(held, number):
    """held: four sets of keys, stops, couplers, off."""
    return [20, *held[4:], number] + row(held[:4])


def tick(message=()):
    return [22] + row(message)


def message_told(held, number):
    return checked(struct.pack("<I5Q2I", number, *held))


def random_held(source):
    return [source.choice([0, source.getrandbits(size), (1 << size) - 1]) for size in [64] * 5 + [32] * 2]
