"""Part 2, promises 1 to 6: start, hand, set, press, back, now, and their corners."""

import unittest

from tests.helper import (ALL_32, ALL_64, BACK, MASKS, NOW, PISTONS, ask, bits, drawn_after, hand, load, page,
                          page_told, press, set_on, start, whole_after)

# Calls behind which there's something of everything.
BUSY = [start(), hand(bits(0, 9, 40), 5), set_on(0, 0, 0), set_on(7, 4, 7), set_on(3, 1, 2), hand(bits(1, 63), 6),
        press(0, 0, 0), hand(bits(2, 8), 9)]


class PistonCase(unittest.TestCase):
    def refuses(self, number, *calls):
        """Behind BUSY each of these is answered by this number alone, and changes nothing."""
        self.assertEqual(ask(*BUSY, *calls)[len(BUSY):], [[number]] * len(calls))
        self.assertEqual(whole_after(*BUSY, *calls), whole_after(*BUSY))


class TestStart(PistonCase):
    def test_answers_0(self):
        for masks in (MASKS, [0, 0, 0, 0], [ALL_64, 0, 0, 0], [0, 0, 0, ALL_64], [1, 2, 4, 8],
                      [0x5555555555555555, 0xAAAAAAAAAAAAAAAA, 0, 0]):
            self.assertEqual(ask(start(masks)), [[0]])

    def test_masks_that_overlap(self):
        for first in range(4):
            for second in range(first + 1, 4):
                for common in (bits(0), bits(5), bits(63), ALL_64):
                    masks = [0, 0, 0, 0]
                    masks[first] = masks[second] = common
                    self.assertEqual(ask(start(masks)), [[-22]], masks)
        self.assertEqual(ask(start([bits(0, 1), bits(1, 2), bits(3), bits(4)])), [[-22]])
        self.assertEqual(ask(start([bits(0), bits(1), bits(2), bits(3, 0)])), [[-22]])

    def test_refused_till_one_is_answered_0(self):
        self.assertEqual(ask(start([1, 1, 0, 0]), start([2, 0, 0, 2]), start(), BACK), [[-22], [-22], [0], [-2]])

    def test_refused_it_is_as_it_was(self):
        self.refuses(-22, start([1, 1, 0, 0]), start([ALL_64, 0, 0, 1]))
        told = ask(start(), hand(1, 1), set_on(0, 0, 0), press(0, 0, 0), start([1, 1, 0, 0]), press(0, 0, 0), BACK)
        self.assertEqual(told, [[0], [0], [0], [0], [-22], [0], [0]])

    def test_a_refused_start_leaves_the_masks(self):
        calls = (start(), hand(bits(0, 8)), set_on(0, 1, 0), start([bits(8), bits(8), 0, 0]),
                 hand(bits(1, 9)), press(0, 1, 0))
        self.assertEqual(drawn_after(*calls), (bits(0, 9), 0))

    def test_again_all_begins_anew(self):
        self.assertEqual(whole_after(*BUSY, start([1, 2, 4, 8])), whole_after(start([1, 2, 4, 8])))
        told = ask(*BUSY, start([1, 2, 4, 8]), NOW, BACK, *[page(level) for level in range(8)])[len(BUSY):]
        self.assertEqual(told, [[0], [0, 0, 0], [-2]] + [[0] + page_told(level) for level in range(8)])
        told = ask(start(), set_on(0, 0, 0), set_on(7, 4, 7), press(0, 0, 0), start(), BACK, press(0, 0, 0),
                   press(7, 4, 7))
        self.assertEqual(told, [[0], [0], [0], [0], [0], [-2], [-2], [-2]])

    def test_nothing_is_drawn_at_first(self):
        self.assertEqual(drawn_after(start()), (0, 0))
        self.assertEqual(drawn_after(start(), hand(3, 4), start()), (0, 0))

    def test_levels_are_empty_at_first(self):
        pressed = [press(level, kind, n) for level in range(8) for kind, n in PISTONS]
        self.assertEqual(len(pressed), 8 * (16 + 4 * 8))
        self.assertEqual(ask(start(), *pressed), [[0]] + [[-2]] * len(pressed))


class TestHand(unittest.TestCase):
    def test_these_are_drawn(self):
        for stops, couplers in ((0, 0), (1, 0), (0, 1), (ALL_64, ALL_32), (bits(63), bits(31))):
            self.assertEqual(ask(start(), hand(stops, couplers)), [[0], [0]])
            self.assertEqual(drawn_after(start(), hand(ALL_64, 7), hand(stops, couplers)), (stops, couplers))

    def test_what_was_before_stays(self):
        calls = (start(), set_on(0, 0, 0), hand(5, 6), press(0, 0, 0), hand(1, 2), hand(3, 4), BACK)
        self.assertEqual(ask(*calls), [[0]] * 7)
        self.assertEqual(drawn_after(*calls), (5, 6))

    def test_it_makes_nothing_before(self):
        self.assertEqual(ask(start(), hand(1, 2), hand(3, 4), BACK), [[0], [0], [0], [-2]])
        self.assertEqual(drawn_after(start(), hand(1, 2), hand(3, 4), BACK), (3, 4))


class TestEdges(PistonCase):
    """-22 of set and press alike."""

    wrong = ((8, 0, 0), (9, 0, 0), (ALL_32, 0, 0), (8, 1, 0), (0, 5, 0), (0, 6, 0), (0, ALL_32, 0), (7, 5, 15),
             (0, 0, 16), (0, 0, 17), (0, 0, ALL_32), (0, 1, 8), (0, 2, 8), (0, 3, 8), (0, 4, 8), (0, 4, 15),
             (0, 1, 16), (7, 1, ALL_32), (8, 5, 16))
    right = ((0, 0, 0), (7, 0, 0), (0, 0, 15), (7, 0, 15), (0, 0, 8), (0, 1, 0), (0, 1, 7), (0, 2, 7), (0, 3, 7),
             (0, 4, 7), (7, 4, 7), (7, 1, 0))

    def test_wrong_ones(self):
        for piston in self.wrong:
            self.assertEqual(ask(start(), set_on(*piston), press(*piston), BACK), [[0], [-22], [-22], [-2]], piston)

    def test_right_ones(self):
        for piston in self.right:
            told = ask(start(), press(*piston), set_on(*piston), press(*piston), BACK)
            self.assertEqual(told, [[0], [-2], [0], [0], [0]], piston)

    def test_refused_it_is_as_it_was(self):
        for piston in self.wrong:
            self.refuses(-22, set_on(*piston))
            self.refuses(-22, press(*piston))

    def test_every_piston_is_one_of_its_own(self):
        pistons = [(level, kind, n) for level in range(8) for kind, n in PISTONS]
        for level, kind, n in pistons[::29]:
            told = ask(start(), set_on(level, kind, n), *[press(*piston) for piston in pistons])
            answered_0 = [piston for piston, answer in zip(pistons, told[2:]) if answer == [0]]
            self.assertEqual(answered_0, [(level, kind, n)])


class TestSet(unittest.TestCase):
    def test_a_general_has_all_that_is_drawn(self):
        calls = (start(), hand(ALL_64, ALL_32), set_on(2, 0, 3), hand(0), press(2, 0, 3))
        self.assertEqual(drawn_after(*calls), (ALL_64, ALL_32))

    def test_a_divisional_has_its_divisions_stops_alone(self):
        for kind in (1, 2, 3, 4):
            calls = (start(), hand(ALL_64, ALL_32), set_on(2, kind, 3), hand(0, 0), press(2, kind, 3))
            self.assertEqual(drawn_after(*calls), (MASKS[kind - 1], 0))

    def test_nothing_else_changes(self):
        expected = whole_after(*BUSY)
        self.assertEqual(expected[6], [0] + page_told(5))
        expected[6] = [0] + page_told(5, 1, {(2, 6): (bits(8), 0)})
        self.assertEqual(whole_after(*BUSY, set_on(5, 2, 6)), expected)

    def test_the_count_is_one_more(self):
        calls = (start(), set_on(0, 0, 0), set_on(0, 0, 0), set_on(0, 4, 7), set_on(6, 1, 1), press(0, 0, 0))
        told = ask(*calls, *[page(level) for level in range(8)])[len(calls):]
        self.assertEqual([answer[9:13] for answer in told], [[count, 0, 0, 0] for count in (3, 0, 0, 0, 0, 0, 1, 0)])

    def test_a_full_count(self):
        full = page_told(0, ALL_32, {(0, 0): (bits(5), 7)})
        calls = [*BUSY, load(0, full, full)]
        told = ask(*calls, set_on(0, 0, 0), set_on(0, 2, 3), set_on(0, 0, 16), set_on(0, 5, 0))[len(BUSY):]
        self.assertEqual(told, [[1], [-28], [-28], [-22], [-22]])
        self.assertEqual(whole_after(*calls, set_on(0, 0, 0), set_on(0, 2, 3)), whole_after(*calls))
        self.assertEqual(ask(*calls, set_on(0, 0, 0), page(0))[-1], [0] + full)
        self.assertEqual(ask(*calls, set_on(0, 0, 0), set_on(1, 0, 0), press(0, 0, 0), NOW)[-3:],
                         [[0], [0], [0, bits(5), 7]])

    def test_a_count_that_gets_full(self):
        nearly = page_told(3, ALL_32 - 1, {(4, 7): (bits(62), 0)})
        told = ask(start(), load(3, nearly, nearly), hand(bits(0, 1), 2), set_on(3, 0, 1), page(3), set_on(3, 0, 1),
                   hand(0), set_on(3, 0, 2), page(3))
        full = page_told(3, ALL_32, {(4, 7): (bits(62), 0), (0, 1): (bits(0, 1), 2)})
        self.assertEqual(told, [[0], [1], [0], [0], [0] + full, [-28], [0], [-28], [0] + full])

    def test_anew(self):
        calls = (start(), hand(3, 1), set_on(0, 0, 0), hand(4, 2), set_on(0, 0, 0), hand(0), press(0, 0, 0))
        self.assertEqual(drawn_after(*calls), (4, 2))


class TestPress(PistonCase):
    def test_an_empty_one(self):
        self.refuses(-2, press(0, 0, 1), press(1, 0, 0), press(0, 1, 0), press(3, 0, 2), press(7, 3, 7))

    def test_a_general_draws_nothing_else(self):
        calls = (start(), hand(bits(0, 9), 1), set_on(0, 0, 0), hand(bits(1, 9, 40, 63), 6), press(0, 0, 0))
        self.assertEqual(drawn_after(*calls), (bits(0, 9), 1))

    def test_a_divisional_leaves_all_others(self):
        calls = (start(), hand(bits(0, 9, 41), 1), set_on(0, 1, 0), hand(bits(1, 2, 10, 40, 63), 6), press(0, 1, 0))
        self.assertEqual(drawn_after(*calls), (bits(0, 10, 40, 63), 6))

    def test_a_divisional_of_nothing(self):
        calls = (start(), set_on(0, 2, 0), hand(bits(0, 9, 40), 6), press(0, 2, 0))
        self.assertEqual(ask(*calls), [[0]] * 4)
        self.assertEqual(drawn_after(*calls), (bits(0, 40), 6))

    def test_a_mask_of_no_stop(self):
        calls = (start(), hand(ALL_64, ALL_32), set_on(0, 3, 0), hand(bits(0, 9, 40), 6), press(0, 3, 0))
        self.assertEqual(ask(*calls), [[0]] * 5)
        self.assertEqual(drawn_after(*calls), (bits(0, 9, 40), 6))

    def test_a_stop_of_no_division(self):
        for kind in (1, 2, 3, 4):
            calls = [start(), hand(ALL_64), set_on(0, kind, 0), hand(0), set_on(0, kind, 1)]
            self.assertEqual(drawn_after(*calls, hand(bits(40)), press(0, kind, 1)), (bits(40), 0))
            self.assertEqual(drawn_after(*calls, hand(0), press(0, kind, 0))[0] & bits(40), 0)

    def test_a_general_set_with_nothing_drawn(self):
        calls = (start(), set_on(0, 0, 0), hand(ALL_64, ALL_32), press(0, 0, 0))
        self.assertEqual(ask(*calls), [[0]] * 4)
        self.assertEqual(drawn_after(*calls), (0, 0))

    def test_twice(self):
        calls = (start(), hand(3, 1), set_on(0, 0, 0), hand(4, 2), press(0, 0, 0), press(0, 0, 0))
        self.assertEqual(drawn_after(*calls), (3, 1))
        self.assertEqual(ask(*calls, BACK, BACK)[-2:], [[0], [-2]])
        # What was before the second is what the first drew.
        self.assertEqual(drawn_after(*calls, BACK), (3, 1))

    def test_it_keeps_what_it_has(self):
        calls = (start(), hand(3, 1), set_on(0, 0, 0), press(0, 0, 0), hand(0), press(0, 0, 0))
        self.assertEqual(drawn_after(*calls), (3, 1))


class TestBack(unittest.TestCase):
    def test_nothing_was_before(self):
        self.assertEqual(ask(start(), BACK), [[0], [-2]])
        self.assertEqual(drawn_after(start(), hand(3, 4), BACK), (3, 4))

    def test_from_a_general(self):
        calls = (start(), set_on(0, 0, 0), hand(4, 2), press(0, 0, 0), BACK)
        self.assertEqual(ask(*calls)[-1], [0])
        self.assertEqual(drawn_after(*calls), (4, 2))

    def test_from_a_divisional(self):
        calls = (start(), set_on(0, 1, 0), hand(bits(0, 9), 2), press(0, 1, 0), BACK)
        self.assertEqual(drawn_after(*calls[:-1]), (bits(9), 2))
        self.assertEqual(drawn_after(*calls), (bits(0, 9), 2))

    def test_nothing_drawn_is_something_before(self):
        calls = (start(), set_on(0, 0, 0), press(0, 0, 0), hand(9, 9), BACK)
        self.assertEqual(ask(*calls), [[0]] * 5)
        self.assertEqual(drawn_after(*calls), (0, 0))

    def test_couplers_of_a_divisional_are_as_before(self):
        calls = (start(), set_on(0, 1, 0), hand(0, 2), press(0, 1, 0), hand(0, 5), BACK)
        self.assertEqual(drawn_after(*calls), (0, 2))

    def test_twice(self):
        calls = (start(), set_on(0, 0, 0), hand(4, 2), press(0, 0, 0), BACK, hand(7, 7), BACK)
        self.assertEqual(ask(*calls)[-3:], [[0], [0], [-2]])
        self.assertEqual(drawn_after(*calls), (7, 7))

    def test_one_step_alone(self):
        calls = (start(), set_on(0, 0, 0), hand(4, 2), set_on(0, 0, 1), hand(8, 8), press(0, 0, 0), press(0, 0, 1),
                 BACK)
        self.assertEqual(drawn_after(*calls), (0, 0))
        self.assertEqual(ask(*calls, BACK)[-2:], [[0], [-2]])

    def test_an_empty_one_pressed_leaves_what_was_before(self):
        calls = (start(), set_on(0, 0, 0), hand(4, 2), press(0, 0, 0), press(0, 0, 1), press(8, 0, 0), BACK)
        self.assertEqual([answer[0] for answer in ask(*calls)], [0, 0, 0, 0, -2, -22, 0])
        self.assertEqual(drawn_after(*calls), (4, 2))


class TestNow(unittest.TestCase):
    def test_after_start(self):
        self.assertEqual(ask(start(), NOW), [[0], [0, 0, 0]])
        self.assertEqual(ask(*BUSY, start(), NOW)[-1], [0, 0, 0])

    def test_after_hand(self):
        self.assertEqual(ask(start(), hand(bits(3, 63), bits(0, 31)), NOW)[-1], [0, bits(3, 63), bits(0, 31)])
        self.assertEqual(ask(start(), hand(ALL_64, ALL_32), NOW)[-1], [0, ALL_64, ALL_32])
        self.assertEqual(ask(start(), hand(ALL_64, ALL_32), hand(0, 1), NOW)[-1], [0, 0, 1])

    def test_after_press_and_back(self):
        told = ask(start(), hand(bits(0, 9), 1), set_on(0, 0, 0), set_on(0, 1, 0), hand(bits(1, 10, 40), 6), NOW,
                   press(0, 0, 0), NOW, BACK, NOW, press(0, 1, 0), NOW, BACK, NOW, BACK, NOW)
        drawn_by_hand = [0, bits(1, 10, 40), 6]
        self.assertEqual(told[5:], [drawn_by_hand, [0], [0, bits(0, 9), 1], [0], drawn_by_hand,
                                    [0], [0, bits(0, 10, 40), 6], [0], drawn_by_hand, [-2], drawn_by_hand])

    def test_it_changes_nothing(self):
        self.assertEqual(whole_after(*BUSY, NOW, NOW), whole_after(*BUSY))

    def test_set_and_page_and_load_draw_nothing(self):
        right = page_told(0, 9, {(0, 0): (bits(7), 8)})
        told = ask(*BUSY, NOW, set_on(0, 0, 0), NOW, page(0), NOW, load(0, right, right), NOW)[len(BUSY):]
        self.assertEqual(told[0::2], [[0, bits(2, 8), 9]] * 4)


if __name__ == "__main__":
    unittest.main()
