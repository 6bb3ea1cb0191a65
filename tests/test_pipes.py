"""Part 1, promise 2: which pipes speak, and its corners."""

import unittest

from tests.helper import ALL_64, ALL_KEYS, Organ, ask, bits, random_organs

FULL = (0, 0, 0, 60, 0)


def one(**changes):
    """One division, one rank of 97, one stop that's held, no coupler."""
    return Organ(**{"divisions": 1, "pipes": [97], "stops": [FULL], "couplers": [], "held_stops": 1, **changes})


def speaks(rank, *pipes):
    return {(rank, pipe) for pipe in pipes}


class TestNumbers(unittest.TestCase):
    def test_nothing_held(self):
        self.assertEqual(ask(Organ().pipes_call()), [[0] * 33])

    def test_one_key(self):
        self.assertEqual(ask(one(keys=[bits(5), 0, 0, 0]).pipes_call()), [[1, 32] + [0] * 31])

    def test_pipes_from_64_on(self):
        organ = one(stops=[(0, 0, 0, 60, 36)], keys=[bits(0, 27, 28, 60), 0, 0, 0])
        self.assertEqual(ask(organ.pipes_call()), [[4, bits(36, 63), bits(0, 32)] + [0] * 30])

    def test_each_rank_has_its_two_numbers(self):
        stops = [(0, rank, 0, 60, rank * 2) for rank in range(16)]
        organ = one(pipes=[97] * 16, stops=stops, held_stops=bits(*range(16)), keys=[bits(0, 60), 0, 0, 0])
        expected = [32]
        for rank in range(16):
            pipes = bits(rank * 2, 60 + rank * 2)
            expected += [pipes & ALL_64, pipes >> 64]
        self.assertEqual(ask(organ.pipes_call()), [expected])

    def test_all_pipes_of_97(self):
        organ = one(stops=[FULL, (0, 0, 0, 60, 36)], held_stops=3, keys=[ALL_KEYS, 0, 0, 0])
        self.assertEqual(ask(organ.pipes_call()), [[97, ALL_64, 2 ** 33 - 1] + [0] * 30])

    def test_pipes_are_counted_over_all_ranks(self):
        organ = one(pipes=[97, 61], stops=[FULL, (0, 1, 0, 60, 0)], held_stops=3, keys=[bits(1, 2, 3), 0, 0, 0])
        self.assertEqual(ask(organ.pipes_call()), [[6, 14, 0, 14, 0] + [0] * 28])


class TestStops(unittest.TestCase):
    def test_only_stops_that_are_held(self):
        organ = Organ(keys=[bits(3), bits(4), 0, 0])
        self.assertEqual(organ.speaking(), set())
        self.assertEqual(organ.but(held_stops=1).speaking(), {(0, 3)})
        self.assertEqual(organ.but(held_stops=2).speaking(), {(1, 16)})
        self.assertEqual(organ.but(held_stops=3).speaking(), {(0, 3), (1, 16)})

    def test_a_stop_hears_its_division_alone(self):
        self.assertEqual(Organ(keys=[bits(3), 0, 0, 0], held_stops=2).speaking(), set())

    def test_two_stops_of_one_rank_at_the_same_pipe(self):
        organ = one(stops=[FULL, (0, 0, 0, 60, 12)], held_stops=3, keys=[bits(20, 32), 0, 0, 0])
        self.assertEqual(organ.speaking(), speaks(0, 20, 32, 44))

    def test_low_to_high(self):
        organ = one(stops=[(0, 0, 10, 20, 0)], keys=[bits(0, 9, 10, 15, 20, 21, 60), 0, 0, 0])
        self.assertEqual(organ.speaking(), speaks(0, 10, 15, 20))

    def test_low_and_high_the_same(self):
        for key in (0, 30, 60):
            organ = one(stops=[(0, 0, key, key, 1)], keys=[ALL_KEYS, 0, 0, 0])
            self.assertEqual(organ.speaking(), speaks(0, key + 1))

    def test_shift_past_the_low_end(self):
        organ = one(stops=[(0, 0, 0, 60, -12)], keys=[bits(0, 11, 12, 13), 0, 0, 0])
        self.assertEqual(organ.speaking(), speaks(0, 0, 1))
        organ = one(stops=[(0, 0, 0, 60, -60)], keys=[ALL_KEYS, 0, 0, 0])
        self.assertEqual(organ.speaking(), speaks(0, 0))

    def test_shift_past_the_high_end(self):
        organ = one(pipes=[61], stops=[(0, 0, 0, 60, 12)], keys=[bits(47, 48, 49, 60), 0, 0, 0])
        self.assertEqual(organ.speaking(), speaks(0, 59, 60))
        organ = one(stops=[(0, 0, 0, 60, 96)], keys=[ALL_KEYS, 0, 0, 0])
        self.assertEqual(organ.speaking(), speaks(0, 96))
        organ = one(pipes=[96], stops=[(0, 0, 0, 60, 96)], keys=[ALL_KEYS, 0, 0, 0])
        self.assertEqual(organ.speaking(), set())

    def test_a_rank_of_one_pipe(self):
        organ = one(pipes=[1], keys=[ALL_KEYS, 0, 0, 0])
        self.assertEqual(organ.speaking(), speaks(0, 0))

    def test_all_keys(self):
        organ = one(keys=[ALL_KEYS, 0, 0, 0])
        self.assertEqual(organ.speaking(), speaks(0, *range(61)))

    def test_the_last_of_64_stops(self):
        organ = one(stops=[(0, 0, 0, 60, 1)] * 63 + [FULL], held_stops=bits(63), keys=[bits(7), 0, 0, 0])
        self.assertEqual(organ.speaking(), speaks(0, 7))


class TestCouplersAndOff(unittest.TestCase):
    def test_only_couplers_that_are_held(self):
        organ = Organ(keys=[0, bits(20), 0, 0], held_stops=1)
        self.assertEqual(organ.speaking(), set())
        self.assertEqual(organ.but(held_couplers=2).speaking(), set())
        self.assertEqual(organ.but(held_couplers=1).speaking(), {(0, 20)})

    def test_a_coupler_leads_one_way(self):
        organ = Organ(keys=[bits(20), 0, 0, 0], held_stops=3, held_couplers=1)
        self.assertEqual(organ.speaking(), {(0, 20)})

    def test_shifts(self):
        for shift, pipe in ((-12, 18), (0, 30), (12, 42)):
            organ = Organ(couplers=[(1, 0, shift)], keys=[0, bits(30), 0, 0], held_stops=1, held_couplers=1)
            self.assertEqual(organ.speaking(), {(0, pipe)})

    def test_out_of_the_keys_range(self):
        # The stop's shift would bring a key of below 0 or above 60 to a pipe that there is.
        down = Organ(pipes=[97], stops=[(0, 0, 0, 60, 12)], couplers=[(1, 0, -12)], held_stops=1, held_couplers=1)
        self.assertEqual(down.but(keys=[0, bits(0, 11), 0, 0]).speaking(), set())
        self.assertEqual(down.but(keys=[0, bits(12), 0, 0]).speaking(), {(0, 12)})
        up = Organ(pipes=[97], stops=[(0, 0, 0, 60, 0)], couplers=[(1, 0, 12)], held_stops=1, held_couplers=1)
        self.assertEqual(up.but(keys=[0, bits(49, 60), 0, 0]).speaking(), set())
        self.assertEqual(up.but(keys=[0, bits(48), 0, 0]).speaking(), {(0, 60)})

    def test_what_only_sounds_is_not_coupled_on(self):
        organ = Organ(divisions=3, pipes=[61], stops=[(2, 0, 0, 60, 0)], couplers=[(0, 1, 0), (1, 2, 0)],
                      keys=[bits(5), 0, 0, 0], held_stops=1, held_couplers=3)
        self.assertEqual(organ.speaking(), set())
        organ = one(couplers=[(0, 0, 12)], held_couplers=1, keys=[bits(5), 0, 0, 0])
        self.assertEqual(organ.speaking(), speaks(0, 5, 17))

    def test_off(self):
        organ = one(keys=[bits(5), 0, 0, 0], off=1)
        self.assertEqual(organ.speaking(), set())

    def test_off_is_of_one_division(self):
        organ = Organ(keys=[bits(3), bits(4), 0, 0], held_stops=3)
        self.assertEqual(organ.but(off=1).speaking(), {(1, 16)})
        self.assertEqual(organ.but(off=2).speaking(), {(0, 3)})

    def test_off_and_coupled_to_itself_by_an_octave(self):
        organ = one(couplers=[(0, 0, 12)], held_couplers=1, keys=[bits(5, 17, 50), 0, 0, 0], off=1)
        self.assertEqual(organ.speaking(), speaks(0, 17, 29))
        organ = one(couplers=[(0, 0, -12)], held_couplers=1, keys=[bits(5, 17, 50), 0, 0, 0], off=1)
        self.assertEqual(organ.speaking(), speaks(0, 5, 38))

    def test_an_off_division_is_still_coupled_from_and_to(self):
        organ = Organ(keys=[bits(3), bits(4), 0, 0], held_stops=1, held_couplers=1)
        self.assertEqual(organ.but(off=2).speaking(), {(0, 3), (0, 4)})
        self.assertEqual(organ.but(off=1).speaking(), {(0, 4)})

    def test_the_last_of_32_couplers(self):
        couplers = [(1, 0, 12)] * 31 + [(1, 0, 0)]
        organ = Organ(couplers=couplers, keys=[0, bits(20), 0, 0], held_stops=1, held_couplers=bits(31))
        self.assertEqual(organ.speaking(), {(0, 20)})


class TestAgainstTheWords(unittest.TestCase):
    def test_many_organs(self):
        for organ in random_organs(1, 400):
            self.assertEqual(organ.speaking(), set(organ.reasons()), vars(organ))


if __name__ == "__main__":
    unittest.main()
