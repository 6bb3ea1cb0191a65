"""Part 2, promise 9: what's set comes back, and a divisional changes its own division's stops alone."""

import random
import unittest

from keydesk.desk import Desk
from tests.helper import ALL_64, BACK, MASKS, ask, bits, carry_out, drawn, hand, press, set_on, start


def random_piston(source):
    kind = source.randint(0, 4)
    return (source.randint(0, 7), kind, source.randint(0, 7 if kind else 15))


def random_calls(source, spared, how_many):
    """Calls of every kind but start, of which none is set on the piston that's spared."""
    calls = []
    while len(calls) < how_many:
        piston = random_piston(source)
        calls.append(source.choice([hand(source.getrandbits(64), source.getrandbits(32)), press(*piston), BACK,
                                    press(*spared), BACK if piston == spared else set_on(*piston),
                                    press(source.randint(8, 99), 0, 0), start([1, 1, 0, 0])]))
    return calls


class Words:
    """Part 2 as the document tells it, told anew."""

    def __init__(self):
        self.begin([0, 0, 0, 0])

    def begin(self, masks):
        self.masks, self.now, self.before, self.pistons = masks, (0, 0), None, {}

    def there_is(self, level, kind, n):
        return level <= 7 and kind <= 4 and n <= (15 if kind == 0 else 7)

    def call(self, call):
        number, rest = call[0], call[1:]
        if number == 10:
            masks = rest[1:]
            if any(sum(mask >> stop & 1 for mask in masks) > 1 for stop in range(64)):
                return -22
            self.begin(masks)
        elif number == 11:
            self.now = tuple(rest)
        elif number == 14:
            if self.before is None:
                return -2
            self.now, self.before = self.before, None
        elif not self.there_is(*rest):
            return -22
        elif number == 12:
            self.pistons[tuple(rest)] = self.now
        elif tuple(rest) not in self.pistons:
            return -2
        else:
            self.press(rest[1], self.pistons[tuple(rest)])
        return 0

    def press(self, kind, was_set):
        self.before = self.now
        if kind == 0:
            self.now = was_set
        else:
            mask = self.masks[kind - 1]
            stops = [stop for stop in range(64) if (was_set if mask >> stop & 1 else self.now)[0] >> stop & 1]
            self.now = (bits(*stops), self.now[1])


class TestWhatHolds(unittest.TestCase):
    def test_what_is_set_comes_back(self):
        source = random.Random(5)
        for _ in range(150):
            spared = random_piston(source)
            stops, couplers = source.getrandbits(64), source.getrandbits(32)
            desk = Desk()
            carry_out(desk, start(), *random_calls(source, spared, 10), hand(stops, couplers), set_on(*spared),
                      *random_calls(source, spared, 60))
            stops_ahead, couplers_ahead = drawn(desk)
            self.assertEqual(carry_out(desk, press(*spared)), [[0]])
            if spared[1] == 0:
                self.assertEqual(drawn(desk), (stops, couplers))
            else:
                mask = MASKS[spared[1] - 1]
                self.assertEqual(drawn(desk), (stops & mask | stops_ahead & (ALL_64 - mask), couplers_ahead))

    def test_a_neighbour_that_is_set_changes_nothing(self):
        spared = (3, 0, 5)
        neighbours = ((3, 0, 4), (3, 0, 6), (2, 0, 5), (4, 0, 5), (3, 1, 5), (3, 4, 5), (0, 0, 0), (7, 4, 7))
        desk = Desk()
        carry_out(desk, start(), hand(bits(0, 9, 63), 7), set_on(*spared))
        for neighbour in neighbours:
            carry_out(desk, hand(bits(1, 10), 8), set_on(*neighbour), press(*neighbour), BACK)
        self.assertEqual(carry_out(desk, press(*spared)), [[0]])
        self.assertEqual(drawn(desk), (bits(0, 9, 63), 7))

    def test_a_divisional_changes_no_stop_of_another(self):
        source = random.Random(6)
        for _ in range(200):
            level, kind, n = source.randint(0, 7), source.randint(1, 4), source.randint(0, 7)
            desk = Desk()
            carry_out(desk, start(), hand(source.getrandbits(64), source.getrandbits(32)), set_on(level, kind, n),
                      hand(source.getrandbits(64), source.getrandbits(32)))
            stops, couplers = drawn(desk)
            self.assertEqual(carry_out(desk, press(level, kind, n)), [[0]])
            self.assertEqual((drawn(desk)[0] ^ stops) & (ALL_64 - MASKS[kind - 1]), 0)
            self.assertEqual(drawn(desk)[1], couplers)


class TestAgainstTheWords(unittest.TestCase):
    def test_many_calls(self):
        source = random.Random(7)
        for _ in range(100):
            words, desk = Words(), Desk()
            calls = [start(), *random_calls(source, (0, 0, 0), 40), start([1, 2, 4, ALL_64 - 15]),
                     *random_calls(source, (1, 1, 1), 40)]
            self.assertEqual(ask(*calls), [[words.call(call)] for call in calls])
            words.begin([0, 0, 0, 0])
            for call in calls:
                carry_out(desk, call)
                words.call(call)
                self.assertEqual(drawn(desk), words.now)


if __name__ == "__main__":
    unittest.main()
