"""Part 2, promise 9: what's set comes back, a divisional keeps to its division, a page gives the level it was of."""

import random
import unittest

from tests.helper import (ALL_32, ALL_64, BACK, MASKS, NOW, PISTONS, ask, bits, drawn_after, hand, level_told, load,
                          page, page_told, press, random_contents, set_on, start)


def random_piston(source):
    return (source.randint(0, 7),) + source.choice(PISTONS)


def random_page(source, level):
    """A page, mostly a right one for the level."""
    octets = page_told(source.choice([level, level, level, level ^ 1]), source.choice([0, 1, 2, ALL_32]),
                       random_contents(source, MASKS))
    if source.randint(0, 3) == 0:
        octets[source.randrange(464)] ^= 1 << source.randrange(8)
    return octets


def random_load(source, level):
    return load(level, random_page(source, level), random_page(source, level))


def random_calls(source, spared, how_many):
    """Calls of every kind, of which none sets the piston that's spared, loads its level or begins all anew."""
    calls = []
    while len(calls) < how_many:
        piston = random_piston(source)
        calls.append(source.choice([hand(source.getrandbits(64), source.getrandbits(32)), press(*piston), BACK, NOW,
                                    press(*spared), BACK if piston == spared else set_on(*piston),
                                    press(source.randint(8, 99), 0, 0), start([1, 1, 0, 0]),
                                    page(source.randint(0, 8))]))
        if source.randint(0, 19) == 0 and piston[0] != spared[0]:
            calls.append(random_load(source, piston[0]))
    return calls


class Words:
    """Part 2 as the document tells it, told anew."""

    def __init__(self):
        self.begin([0, 0, 0, 0])

    def begin(self, masks):
        self.masks, self.now, self.before = masks, (0, 0), None
        self.counts = [0] * 8
        self.levels = [{} for _ in range(8)]

    def call(self, call):
        return [self.start, self.hand, self.set, self.press, self.back, self.tell, self.page, self.load][call[0] - 10](
            *call[1:])

    def start(self, length, *masks):
        if any(sum(mask >> stop & 1 for mask in masks) > 1 for stop in range(64)):
            return [-22]
        self.begin(masks)
        return [0]

    def hand(self, stops, couplers):
        self.now = (stops, couplers)
        return [0]

    def set(self, level, kind, n):
        if level > 7 or (kind, n) not in PISTONS:
            return [-22]
        if self.counts[level] == ALL_32:
            return [-28]
        self.levels[level][kind, n] = self.now if kind == 0 else (self.now[0] & self.masks[kind - 1], 0)
        self.counts[level] += 1
        return [0]

    def press(self, level, kind, n):
        if level > 7 or (kind, n) not in PISTONS:
            return [-22]
        if (kind, n) not in self.levels[level]:
            return [-2]
        was_set = self.levels[level][kind, n]
        self.before = self.now
        if kind == 0:
            self.now = was_set
        else:
            mask = self.masks[kind - 1]
            stops = [stop for stop in range(64) if (was_set if mask >> stop & 1 else self.now)[0] >> stop & 1]
            self.now = (bits(*stops), self.now[1])
        return [0]

    def back(self):
        if self.before is None:
            return [-2]
        self.now, self.before = self.before, None
        return [0]

    def tell(self):
        return [0, *self.now]

    def page(self, level):
        if level > 7:
            return [-22]
        return [0] + page_told(level, self.counts[level], self.levels[level])

    def load(self, level, length, *rest):
        if level > 7:
            return [-22]
        told = [level_told(octets, level, self.masks) for octets in (rest[:464], rest[465:])]
        right = [place for place in (0, 1) if told[place] is not None]
        # The first of two with the same count stays ahead.
        best = max(right, key=lambda place: told[place][0], default=None)
        self.counts[level], self.levels[level] = (0, {}) if best is None else told[best]
        return [0 if best is None else best + 1]


class TestWhatIsSetComesBack(unittest.TestCase):
    def comes_back(self, calls, spared, stops, couplers):
        """Pressed behind these calls, the piston brings these."""
        stops_ahead, couplers_ahead = drawn_after(*calls)
        self.assertEqual(ask(*calls, press(*spared))[-1], [0])
        expected = (stops, couplers)
        if spared[1]:
            mask = MASKS[spared[1] - 1]
            expected = (stops & mask | stops_ahead & (ALL_64 - mask), couplers_ahead)
        self.assertEqual(drawn_after(*calls, press(*spared)), expected)

    def test_whatever_is_between(self):
        source = random.Random(5)
        for _ in range(100):
            spared = random_piston(source)
            stops, couplers = source.getrandbits(64), source.getrandbits(32)
            calls = [start(), *random_calls(source, spared, 10), hand(stops, couplers), set_on(*spared),
                     *random_calls(source, spared, 60)]
            self.comes_back(calls, spared, stops, couplers)

    def test_by_page_and_load(self):
        source = random.Random(9)
        for _ in range(30):
            spared = random_piston(source)
            stops, couplers = source.getrandbits(64), source.getrandbits(32)
            calls = [start(), *random_calls(source, spared, 10), hand(stops, couplers), set_on(*spared),
                     *random_calls(source, spared, 10)]
            octets = ask(*calls, page(spared[0]))[-1][1:]
            another = page_told(spared[0] ^ 1, ALL_32, random_contents(source, MASKS))
            for both in ((octets, another), (another, octets), (octets, octets)):
                reload = [load(spared[0], *both), *random_calls(source, spared, 10)]
                self.comes_back([*calls, *reload], spared, stops, couplers)
                self.comes_back([start(), *reload], spared, stops, couplers)

    def test_a_neighbour_that_is_set_changes_nothing(self):
        spared = (3, 0, 5)
        neighbours = ((3, 0, 4), (3, 0, 6), (2, 0, 5), (4, 0, 5), (3, 1, 5), (3, 4, 5), (0, 0, 0), (7, 4, 7))
        calls = [start(), hand(bits(0, 9, 63), 7), set_on(*spared)]
        for neighbour in neighbours:
            calls += [hand(bits(1, 10), 8), set_on(*neighbour), press(*neighbour), BACK]
        self.comes_back(calls, spared, bits(0, 9, 63), 7)

    def test_every_piston_of_a_level(self):
        contents = {piston: (bits(place) if piston[0] == 0 else MASKS[piston[0] - 1] & 0x5555555555555555 << place % 2,
                             place if piston[0] == 0 else 0)
                    for place, piston in enumerate(PISTONS)}
        calls = [start()]
        for piston, (stops, couplers) in contents.items():
            calls += [hand(stops, couplers), set_on(2, *piston)]
        octets = ask(*calls, page(2))[-1][1:]
        self.assertEqual(octets, page_told(2, 48, contents))
        for begun in (calls, [start(), load(2, octets, octets)]):
            for piston, (stops, couplers) in contents.items():
                self.assertEqual(drawn_after(*begun, hand(0), press(2, *piston)), (stops, couplers), piston)

    def test_till_it_is_set_anew_or_loaded_or_all_begins_anew(self):
        calls = [start(), hand(3, 1), set_on(0, 0, 0), hand(4, 2)]
        other = page_told(0, 1, {(0, 0): (bits(9), 5)})
        self.assertEqual(drawn_after(*calls, press(0, 0, 0)), (3, 1))
        self.assertEqual(drawn_after(*calls, set_on(0, 0, 0), hand(0), press(0, 0, 0)), (4, 2))
        self.assertEqual(drawn_after(*calls, load(0, other, other), press(0, 0, 0)), (bits(9), 5))
        self.assertEqual(ask(*calls, start(), press(0, 0, 0))[-1], [-2])


class TestADivisional(unittest.TestCase):
    def test_it_changes_no_stop_of_another(self):
        source = random.Random(6)
        for _ in range(200):
            level, kind, n = source.randint(0, 7), source.randint(1, 4), source.randint(0, 7)
            stops, couplers = source.getrandbits(64), source.getrandbits(32)
            calls = [start(), hand(source.getrandbits(64), source.getrandbits(32)), set_on(level, kind, n),
                     hand(stops, couplers), press(level, kind, n)]
            self.assertEqual(ask(*calls)[-1], [0])
            stops_then, couplers_then = drawn_after(*calls)
            self.assertEqual((stops_then ^ stops) & (ALL_64 - MASKS[kind - 1]), 0)
            self.assertEqual(couplers_then, couplers)

    def test_nor_does_one_that_was_loaded(self):
        for kind in (1, 2, 3, 4):
            octets = page_told(0, 1, {(kind, 0): (MASKS[kind - 1], 0), (kind, 1): (0, 0)})
            calls = [start(), load(0, octets, octets)]
            self.assertEqual(drawn_after(*calls, hand(bits(40), 3), press(0, kind, 0)), (MASKS[kind - 1] | bits(40), 3))
            self.assertEqual(drawn_after(*calls, hand(ALL_64, 3), press(0, kind, 1)), (ALL_64 - MASKS[kind - 1], 3))


class TestHalfWritten(unittest.TestCase):
    """A page is written over an older one; what was on the other page isn't lost."""

    def setUp(self):
        source = random.Random(10)
        self.older, self.old, self.new = [page_told(5, count, random_contents(source, MASKS)) for count in (7, 8, 9)]

    def loaded(self, pairs):
        """Of each pair of pages what load answers, and the page that the level has then."""
        told = []
        for place in range(0, len(pairs), 16):
            calls = [call for pair in pairs[place:place + 16] for call in (load(5, *pair), page(5))]
            told += ask(start(), *calls)[1:]
        return [(told[k][0], told[k + 1][1:]) for k in range(0, len(told), 2)]

    def half_written(self):
        for under in (self.older, [0] * 464, [255] * 464):
            yield from [self.new[:k] + under[k:] for k in range(0, 464, 13)]

    def test_the_other_page_half_written(self):
        halves = [half for half in self.half_written() if half != self.new]
        self.assertGreater(len(halves), 100)
        self.assertEqual(self.loaded([(self.old, half) for half in halves]), [(1, self.old)] * len(halves))
        # The older one, nothing written over it yet, is right too, but its count is smaller.
        self.assertEqual(self.loaded([(half, self.old) for half in halves]), [(2, self.old)] * len(halves))

    def test_the_other_page_whole(self):
        pairs = [(self.old, self.new), (self.new, self.old), (self.old, self.older), (self.older, self.old)]
        self.assertEqual(self.loaded(pairs), [(2, self.new), (1, self.new), (1, self.old), (2, self.old)])


class TestAgainstTheWords(unittest.TestCase):
    def test_many_calls(self):
        source = random.Random(7)
        for _ in range(40):
            words = Words()
            calls = [start(), *random_calls(source, (0, 0, 0), 40), start([1, 2, 4, ALL_64 - 15]),
                     *random_calls(source, (1, 1, 1), 40), random_load(source, 3), random_load(source, 8)]
            asked = [with_now for call in calls for with_now in (call, NOW)]
            self.assertEqual(ask(*asked), [words.call(call) for call in asked])
            pages = [page(level) for level in range(8)]
            self.assertEqual(ask(*calls, *pages)[len(calls):], [words.call(call) for call in pages])


if __name__ == "__main__":
    unittest.main()
