"""Part 1, promise 1: what's no plan as told (-22), and what's held that there isn't (-71)."""

import unittest

from tests.helper import ALL_32, ALL_64, ALL_KEYS, Organ, ask, bits

STOP = (0, 0, 0, 60, 0)
COUPLER = (0, 1, 0)


class PlanCase(unittest.TestCase):
    def refuses(self, number, organ):
        self.assertEqual(ask(organ.pipes_call(), organ.why_call(0, 0)), [[number], [number]], vars(organ))

    def takes(self, organ):
        told = ask(organ.pipes_call(), organ.why_call(0, 0))
        self.assertEqual(len(told[0]), 33, vars(organ))
        self.assertGreaterEqual(told[0][0], 0)
        self.assertIn(told[1][0], (0, -2))


class TestSizes(PlanCase):
    def test_divisions(self):
        for divisions in (0, 5, 6, 255):
            self.refuses(-22, Organ(divisions=divisions, stops=[STOP], couplers=[]))
        for divisions in (1, 2, 3, 4):
            self.takes(Organ(divisions=divisions, stops=[STOP], couplers=[]))

    def test_ranks(self):
        for ranks in (0, 17, 20):
            self.refuses(-22, Organ(pipes=[61] * ranks, stops=[STOP]))
        for ranks in (1, 2, 16):
            self.takes(Organ(pipes=[61] * ranks, stops=[STOP]))

    def test_pipes_of_a_rank(self):
        for count in (0, 98, 255):
            self.refuses(-22, Organ(pipes=[count], stops=[STOP]))
            self.refuses(-22, Organ(pipes=[61, 61, count], stops=[STOP]))
        for count in (1, 2, 96, 97):
            self.takes(Organ(pipes=[count], stops=[STOP]))
            self.takes(Organ(pipes=[61, 61, count], stops=[STOP]))

    def test_how_many_stops(self):
        for count in (0, 65, 66):
            self.refuses(-22, Organ(stops=[STOP] * count))
        for count in (1, 2, 63, 64):
            self.takes(Organ(stops=[STOP] * count, held_stops=(1 << count) - 1))

    def test_how_many_couplers(self):
        for count in (33, 34, 35):
            self.refuses(-22, Organ(couplers=[COUPLER] * count))
        for count in (0, 1, 31, 32):
            self.takes(Organ(couplers=[COUPLER] * count, held_couplers=(1 << count) - 1))

    def test_a_stop_or_coupler_cut_short(self):
        for count in (1, 2, 3, 4):
            self.refuses(-22, Organ(stops=[STOP, STOP[:count]]))
        for count in (1, 2):
            self.refuses(-22, Organ(couplers=[COUPLER, COUPLER[:count]]))


class TestStop(PlanCase):
    def each_place(self, stop):
        return [Organ(stops=[stop]), Organ(stops=[STOP, stop]), Organ(stops=[stop, STOP])]

    def stop_refused(self, *stop):
        for organ in self.each_place(stop):
            self.refuses(-22, organ)

    def stop_taken(self, *stop):
        for organ in self.each_place(stop):
            self.takes(organ)

    def test_division(self):
        self.stop_taken(0, 0, 0, 60, 0)
        self.stop_taken(1, 0, 0, 60, 0)
        for division in (2, 3, 4, 255, -1):
            self.stop_refused(division, 0, 0, 60, 0)

    def test_division_of_four(self):
        self.takes(Organ(divisions=4, stops=[(3, 0, 0, 60, 0)]))
        self.refuses(-22, Organ(divisions=4, stops=[(4, 0, 0, 60, 0)]))
        self.refuses(-22, Organ(divisions=3, stops=[(3, 0, 0, 60, 0)]))

    def test_rank(self):
        self.stop_taken(0, 1, 0, 60, 0)
        for rank in (2, 15, 16, 255, -1):
            self.stop_refused(0, rank, 0, 60, 0)
        self.takes(Organ(pipes=[61] * 16, stops=[(0, 15, 0, 60, 0)]))
        self.refuses(-22, Organ(pipes=[61] * 16, stops=[(0, 16, 0, 60, 0)]))

    def test_low_and_high(self):
        for low, high in ((0, 0), (0, 60), (60, 60), (30, 30), (29, 30), (59, 60)):
            self.stop_taken(0, 0, low, high, 0)
        for low, high in ((0, 61), (60, 61), (61, 61), (61, 60), (0, 255), (255, 255), (31, 30), (1, 0), (60, 0)):
            self.stop_refused(0, 0, low, high, 0)
        self.stop_refused(0, 0, -1, 60, 0)

    def test_shift(self):
        for shift in (-60, -59, -1, 0, 1, 95, 96):
            self.stop_taken(0, 0, 0, 60, shift)
        for shift in (-61, -128, 97, 127):
            self.stop_refused(0, 0, 0, 60, shift)


class TestCoupler(PlanCase):
    def coupler_refused(self, *coupler):
        for couplers in ([coupler], [COUPLER, coupler], [coupler, COUPLER]):
            self.refuses(-22, Organ(couplers=couplers))

    def coupler_taken(self, *coupler):
        for couplers in ([coupler], [COUPLER, coupler], [coupler, COUPLER]):
            self.takes(Organ(couplers=couplers))

    def test_from(self):
        self.coupler_taken(0, 1, 0)
        self.coupler_taken(1, 0, 0)
        for source in (2, 3, 255, -1):
            self.coupler_refused(source, 0, 0)

    def test_to(self):
        for target in (2, 3, 255, -1):
            self.coupler_refused(0, target, 0)

    def test_of_four_divisions(self):
        self.takes(Organ(divisions=4, couplers=[(3, 0, 0), (0, 3, 0)]))
        self.refuses(-22, Organ(divisions=4, couplers=[(4, 0, 0)]))
        self.refuses(-22, Organ(divisions=4, couplers=[(0, 4, 0)]))

    def test_shift(self):
        for shift in (-12, 0, 12):
            self.coupler_taken(0, 1, shift)
        for shift in (-128, -24, -13, -11, -1, 1, 11, 13, 24, 127):
            self.coupler_refused(0, 1, shift)
            self.coupler_refused(0, 0, shift)

    def test_to_itself(self):
        for division in (0, 1):
            self.coupler_taken(division, division, -12)
            self.coupler_taken(division, division, 12)
            self.coupler_refused(division, division, 0)


class TestHeld(PlanCase):
    def test_keys(self):
        for division in (0, 1):
            for keys_there in (bits(61), bits(62), bits(63), bits(0, 61), ALL_64):
                keys = [0, 0, 0, 0]
                keys[division] = keys_there
                self.refuses(-71, Organ(keys=keys))
        for keys_there in (0, bits(0), bits(60), ALL_KEYS):
            self.takes(Organ(keys=[keys_there, keys_there, 0, 0]))

    def test_keys_of_a_division_that_there_is_not(self):
        for divisions in (1, 2, 3):
            for division in range(divisions, 4):
                for key in (0, 60, 61):
                    keys = [0, 0, 0, 0]
                    keys[division] = bits(key)
                    self.refuses(-71, Organ(divisions=divisions, stops=[STOP], couplers=[], keys=keys))
        for divisions in (1, 2, 3, 4):
            keys = [ALL_KEYS] * divisions + [0] * (4 - divisions)
            self.takes(Organ(divisions=divisions, stops=[STOP], couplers=[], keys=keys))

    def test_stops(self):
        for held in (bits(2), bits(0, 2), bits(63), ALL_64):
            self.refuses(-71, Organ(held_stops=held))
        self.takes(Organ(held_stops=bits(0, 1)))
        self.refuses(-71, Organ(stops=[STOP] * 63, held_stops=bits(63)))
        self.takes(Organ(stops=[STOP] * 64, held_stops=ALL_64))

    def test_couplers(self):
        for held in (bits(2), bits(0, 2), bits(31), ALL_32):
            self.refuses(-71, Organ(held_couplers=held))
        self.takes(Organ(held_couplers=bits(0, 1)))
        self.refuses(-71, Organ(couplers=[], held_couplers=1))
        self.refuses(-71, Organ(couplers=[COUPLER] * 31, held_couplers=bits(31)))
        self.takes(Organ(couplers=[COUPLER] * 32, held_couplers=ALL_32))

    def test_off(self):
        for off in (bits(2), bits(0, 2), bits(3), bits(31), ALL_32):
            self.refuses(-71, Organ(off=off))
        self.takes(Organ(off=bits(0, 1)))
        self.takes(Organ(divisions=4, off=bits(0, 1, 2, 3)))
        self.refuses(-71, Organ(divisions=4, off=bits(4)))

    def test_it_is_told_ahead_of_a_pipe_that_there_is_not(self):
        organ = Organ(off=bits(2))
        self.assertEqual(ask(organ.why_call(9, 9), organ.but(divisions=0).why_call(9, 9)), [[-71], [-22]])

    def test_both_at_once(self):
        held_wrong = (Organ(keys=[bits(61), 0, 0, 0]), Organ(keys=[0, 0, 0, 1]), Organ(held_stops=ALL_64),
                      Organ(held_couplers=ALL_32), Organ(off=ALL_32))
        for organ in held_wrong:
            self.refuses(-71, organ)
            self.refuses(-22, organ.but(divisions=0))
            self.refuses(-22, organ.but(pipes=[]))
            self.refuses(-22, organ.but(pipes=[61, 98]))
            self.refuses(-22, organ.but(stops=[]))
            self.refuses(-22, organ.but(stops=[(0, 0, 0, 61, 0)]))
            self.refuses(-22, organ.but(couplers=[(0, 0, 0)]))


if __name__ == "__main__":
    unittest.main()
