"""Part 1, promise 4: what holds of whatever is held."""

import random
import unittest

from tests.helper import ALL_KEYS, Organ, bits, random_organs


def more_bits(source, there, size):
    return there | (source.getrandbits(size) if size else 0)


class TestWhatHolds(unittest.TestCase):
    def setUp(self):
        self.source = random.Random(3)
        self.organs = random_organs(4, 150)

    def test_more_keys(self):
        for organ in self.organs:
            keys = list(organ.keys)
            for division in range(organ.divisions):
                keys[division] = more_bits(self.source, keys[division], 61)
            self.assertLessEqual(organ.speaking(), organ.but(keys=keys).speaking())

    def test_more_stops(self):
        for organ in self.organs:
            held_stops = more_bits(self.source, organ.held_stops, len(organ.stops))
            self.assertLessEqual(organ.speaking(), organ.but(held_stops=held_stops).speaking())

    def test_more_couplers(self):
        for organ in self.organs:
            held_couplers = more_bits(self.source, organ.held_couplers, len(organ.couplers))
            self.assertLessEqual(organ.speaking(), organ.but(held_couplers=held_couplers).speaking())

    def test_one_more_of_each_on_a_small_organ(self):
        organ = Organ(keys=[bits(20), bits(40), 0, 0], held_stops=1)
        there = organ.speaking()
        self.assertEqual(there, {(0, 20)})
        self.assertEqual(organ.but(keys=[bits(20, 21), bits(40), 0, 0]).speaking(), there | {(0, 21)})
        self.assertEqual(organ.but(held_stops=3).speaking(), there | {(1, 52)})
        self.assertEqual(organ.but(held_couplers=1).speaking(), there | {(0, 40)})
        self.assertEqual(organ.but(held_couplers=3).speaking(), there | {(0, 40), (0, 32)})

    def test_a_division_off(self):
        for organ in self.organs:
            for division in range(organ.divisions):
                self.assertLessEqual(organ.but(off=organ.off | 1 << division).speaking(), organ.speaking())

    def test_no_stop_held(self):
        for organ in self.organs:
            full = organ.but(held_stops=0, off=0, held_couplers=(1 << len(organ.couplers)) - 1,
                             keys=[ALL_KEYS] * organ.divisions + [0] * (4 - organ.divisions))
            self.assertEqual(full.speaking(), set())

    def test_of_whatever_speaks_why_tells_a_reason_that_is_so(self):
        for organ in self.organs[:40]:
            for rank, pipe in sorted(organ.speaking()):
                answer = organ.why(rank, pipe)
                self.assertEqual(answer[0], 0)
                self.is_so(organ, rank, pipe, *answer[1:])

    def is_so(self, organ, rank, pipe, stop, key, cause, held_key):
        division, stop_rank, low, high, shift = organ.stops[stop]
        self.assertTrue(organ.held_stops >> stop & 1)
        self.assertEqual((stop_rank, key + shift), (rank, pipe))
        self.assertTrue(low <= key <= high)
        if cause == 255:
            self.assertEqual(held_key, key)
            self.assertTrue(organ.keys[division] >> key & 1)
            self.assertFalse(organ.off >> division & 1)
        else:
            origin, target, by = organ.couplers[cause]
            self.assertTrue(organ.held_couplers >> cause & 1)
            self.assertEqual((target, held_key + by), (division, key))
            self.assertTrue(organ.keys[origin] >> held_key & 1)


if __name__ == "__main__":
    unittest.main()
