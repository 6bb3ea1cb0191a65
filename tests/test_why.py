"""Part 1, promise 3: why a pipe speaks."""

import unittest

from tests.helper import ALL_32, ALL_KEYS, Organ, bits, random_organs

FULL = (0, 0, 0, 60, 0)


def two(**changes):
    """Two divisions, a rank of 97; stops 0 and 1 of division 0, 2 of division 1; all held."""
    stops = [FULL, (0, 0, 0, 60, 12), (1, 0, 0, 60, 0)]
    couplers = [(1, 0, 0), (0, 0, 12), (1, 0, 12), (0, 0, -12)]
    return Organ(**{"pipes": [97, 5], "stops": stops, "couplers": couplers, "held_stops": 7, **changes})


class TestNoReason(unittest.TestCase):
    def test_no_such_rank(self):
        organ = two(keys=[ALL_KEYS, ALL_KEYS, 0, 0])
        for rank in (2, 3, 15, 16, ALL_32):
            self.assertEqual(organ.why(rank, 0), [-2])

    def test_no_such_pipe(self):
        organ = two(keys=[ALL_KEYS, ALL_KEYS, 0, 0], stops=[FULL, (0, 1, 0, 60, 0)], held_stops=3)
        self.assertEqual(organ.why(1, 4), [0, 1, 4, 255, 4])
        for pipe in (5, 6, 60, 97, ALL_32):
            self.assertEqual(organ.why(1, pipe), [-2])
        for pipe in (97, 98, ALL_32):
            self.assertEqual(organ.why(0, pipe), [-2])

    def test_a_pipe_that_does_not_speak(self):
        organ = two(keys=[bits(30), 0, 0, 0])
        self.assertEqual(organ.why(0, 31), [-2])
        self.assertEqual(organ.why(1, 0), [-2])
        self.assertEqual(organ.but(held_stops=0).why(0, 30), [-2])
        self.assertEqual(organ.but(off=1).why(0, 30), [-2])

    def test_past_low_and_high(self):
        organ = two(stops=[(0, 0, 10, 20, 3)], held_stops=1, keys=[ALL_KEYS, 0, 0, 0])
        self.assertEqual([organ.why(0, pipe)[0] for pipe in (12, 13, 23, 24)], [-2, 0, 0, -2])

    def test_past_the_rank(self):
        organ = two(stops=[(0, 1, 0, 60, -58)], held_stops=1, keys=[ALL_KEYS, 0, 0, 0])
        self.assertEqual([organ.why(1, pipe) for pipe in (0, 2, 3)], [[0, 0, 58, 255, 58], [0, 0, 60, 255, 60], [-2]])

    def test_a_coupler_out_of_the_keys_range(self):
        organ = two(pipes=[97], stops=[(0, 0, 0, 60, 0)], held_stops=1, held_couplers=bits(1, 3), off=1)
        self.assertEqual(organ.but(keys=[bits(60), 0, 0, 0]).why(0, 72), [-2])
        self.assertEqual(organ.but(keys=[bits(60), 0, 0, 0]).why(0, 48), [0, 0, 48, 3, 60])
        self.assertEqual(organ.but(keys=[bits(0), 0, 0, 0]).why(0, 12), [0, 0, 12, 1, 0])
        # Key 55 would come by coupler 3 from key 67, key 5 by coupler 1 from key -7.
        self.assertEqual(organ.but(keys=[ALL_KEYS, 0, 0, 0]).but(held_couplers=bits(3)).why(0, 55), [-2])
        self.assertEqual(organ.but(keys=[ALL_KEYS, 0, 0, 0]).but(held_couplers=bits(1)).why(0, 5), [-2])

    def test_what_only_sounds_is_not_coupled_on(self):
        organ = two(keys=[bits(5), 0, 0, 0], held_stops=1, held_couplers=bits(1))
        self.assertEqual(organ.why(0, 17), [0, 0, 17, 1, 5])
        self.assertEqual(organ.why(0, 29), [-2])


class TestReason(unittest.TestCase):
    def test_a_key_that_is_held(self):
        self.assertEqual(two(keys=[bits(30), 0, 0, 0]).why(0, 30), [0, 0, 30, 255, 30])

    def test_the_least_stop(self):
        organ = two(keys=[bits(30, 42), bits(42), 0, 0])
        self.assertEqual(organ.why(0, 42), [0, 0, 42, 255, 42])
        self.assertEqual(organ.but(held_stops=6).why(0, 42), [0, 1, 30, 255, 30])
        self.assertEqual(organ.but(held_stops=4).why(0, 42), [0, 2, 42, 255, 42])

    def test_the_least_stop_by_which_it_speaks(self):
        organ = two(keys=[bits(30), bits(42), 0, 0])
        self.assertEqual(organ.why(0, 42), [0, 1, 30, 255, 30])
        self.assertEqual(organ.but(keys=[0, bits(42), 0, 0]).why(0, 42), [0, 2, 42, 255, 42])

    def test_the_least_stop_goes_ahead_of_a_key_held_itself(self):
        organ = two(keys=[0, bits(42), 0, 0], held_couplers=1)
        self.assertEqual(organ.why(0, 42), [0, 0, 42, 0, 42])

    def test_the_key_is_the_stops_least(self):
        # Pipe 42 by stop 1: key 30, though key 42 sounds there too.
        organ = two(keys=[bits(30, 42), 0, 0, 0], held_stops=2)
        self.assertEqual(organ.why(0, 42), [0, 1, 30, 255, 30])

    def test_255_ahead_of_a_coupler(self):
        organ = two(keys=[bits(18, 30), bits(30), 0, 0], held_couplers=15)
        self.assertEqual(organ.why(0, 30), [0, 0, 30, 255, 30])
        self.assertEqual(organ.but(off=1).why(0, 30), [0, 0, 30, 0, 30])

    def test_the_least_coupler(self):
        organ = two(keys=[bits(18, 42), bits(18, 30), 0, 0], held_couplers=15)
        self.assertEqual(organ.why(0, 30), [0, 0, 30, 0, 30])
        self.assertEqual(organ.but(held_couplers=14).why(0, 30), [0, 0, 30, 1, 18])
        self.assertEqual(organ.but(held_couplers=12).why(0, 30), [0, 0, 30, 2, 18])
        self.assertEqual(organ.but(held_couplers=8).why(0, 30), [0, 0, 30, 3, 42])

    def test_the_least_coupler_by_which_it_sounds(self):
        organ = two(keys=[bits(42), 0, 0, 0], held_couplers=15)
        self.assertEqual(organ.why(0, 30), [0, 0, 30, 3, 42])

    def test_off_and_coupled_to_itself_by_an_octave(self):
        organ = two(keys=[bits(5, 17), 0, 0, 0], held_couplers=2, off=1)
        self.assertEqual(organ.why(0, 17), [0, 0, 17, 1, 5])
        self.assertEqual(organ.why(0, 5), [-2])

    def test_the_source_may_be_off(self):
        organ = two(keys=[0, bits(9), 0, 0], held_couplers=1, off=2)
        self.assertEqual(organ.why(0, 9), [0, 0, 9, 0, 9])

    def test_the_edges_of_keys_and_pipes(self):
        organ = two(stops=[(0, 0, 0, 60, 36), FULL], held_stops=3, keys=[ALL_KEYS, 0, 0, 0])
        self.assertEqual(organ.why(0, 96), [0, 0, 60, 255, 60])
        self.assertEqual(organ.why(0, 36), [0, 0, 0, 255, 0])
        self.assertEqual(organ.why(0, 35), [0, 1, 35, 255, 35])
        self.assertEqual(organ.why(0, 0), [0, 1, 0, 255, 0])


class TestAgainstTheWords(unittest.TestCase):
    def test_many_organs(self):
        for organ in random_organs(2, 40):
            reasons = organ.reasons()
            for rank, count in enumerate(organ.pipes):
                for pipe in range(0, count + 2):
                    expected = [-2]
                    if (rank, pipe) in reasons:
                        expected = [0, *reasons[(rank, pipe)][0]]
                    self.assertEqual(organ.why(rank, pipe), expected, (rank, pipe, vars(organ)))


if __name__ == "__main__":
    unittest.main()
