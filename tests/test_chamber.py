"""Part 3, promises 1 to 3: say, start_chamber, tick, and their corners."""

import unittest

from tests.helper import (ALL_32, ALL_64, ALL_HELD, NOTHING_HELD, START_CHAMBER, ask, bits, checked, crc_32c,
                          message_told, say, start, tick)

HELD = [0x0102030405060708, 0x1112131415161718, 0x2122232425262728, 0x3132333435363738, 0x4142434445464748,
        0x51525354, 0x61626364]
OTHER = [7, 0, 0, bits(60), bits(63), bits(31), 5]
SILENT = [0] + NOTHING_HELD
EMPTY = tick()
HALF = 2 ** 31


def ticked(*messages):
    """What is answered to a tick with each of these, behind a start_chamber."""
    return ask(START_CHAMBER, *[tick(message) for message in messages])[1:]


def hears(*calls):
    """The first numbers answered to these calls behind a start_chamber."""
    return [answer[0] for answer in ask(START_CHAMBER, *calls)[1:]]


class TestSay(unittest.TestCase):
    def test_to_the_letter(self):
        expected = [0x74, 0x73, 0x72, 0x71, 8, 7, 6, 5, 4, 3, 2, 1, 0x18, 0x17, 0x16, 0x15, 0x14, 0x13, 0x12, 0x11,
                    0x28, 0x27, 0x26, 0x25, 0x24, 0x23, 0x22, 0x21, 0x38, 0x37, 0x36, 0x35, 0x34, 0x33, 0x32, 0x31,
                    0x48, 0x47, 0x46, 0x45, 0x44, 0x43, 0x42, 0x41, 0x54, 0x53, 0x52, 0x51, 0x64, 0x63, 0x62, 0x61]
        self.assertEqual(ask(say(HELD, 0x71727374)), [[0] + expected + [0xBE, 0x3C, 0xB1, 0x36]])
        self.assertEqual(crc_32c(expected), 0x36B13CBE)

    def test_the_call_to_the_letter(self):
        (told,) = ask([20, 5, 6, 7, 8, 4, 1, 2, 3, 4])
        self.assertEqual([place for place, octet in enumerate(told[1:53]) if octet], [0, 4, 12, 20, 28, 36, 44, 48])
        self.assertEqual([octet for octet in told[1:53] if octet], [8, 1, 2, 3, 4, 5, 6, 7])

    def test_nothing_held(self):
        self.assertEqual(ask(say(NOTHING_HELD, 0)), [[0] * 53 + [202, 138, 102, 107]])
        self.assertEqual(ask(say(NOTHING_HELD, 0)), [[0] + checked([0] * 52)])

    def test_all_bits(self):
        self.assertEqual(ask(say(ALL_HELD, ALL_32)), [[0] + [255] * 52 + [252, 244, 24, 244]])
        self.assertEqual(ask(say(ALL_HELD, ALL_32)), [[0] + checked([255] * 52)])

    def test_each_bit_at_its_place(self):
        places = [(4 + 8 * part, 64) for part in range(5)] + [(44, 32), (48, 32)]
        calls, expected = [], []
        for part, (place, size) in enumerate(places):
            for bit in range(size):
                held = list(NOTHING_HELD)
                held[part] = 1 << bit
                octets = [0] * 52
                octets[place + bit // 8] = 1 << bit % 8
                calls.append(say(held, 0))
                expected.append([0] + checked(octets))
        for bit in range(32):
            octets = [0] * 52
            octets[bit // 8] = 1 << bit % 8
            calls.append(say(NOTHING_HELD, 1 << bit))
            expected.append([0] + checked(octets))
        self.assertEqual(ask(*calls), expected)

    def test_without_a_chamber(self):
        self.assertEqual(ask(say(HELD, 3), say(OTHER, 4)),
                         [[0] + message_told(HELD, 3), [0] + message_told(OTHER, 4)])

    def test_it_changes_nothing_in_a_chamber(self):
        told = ask(START_CHAMBER, tick(message_told(HELD, 3)), say(OTHER, 9), EMPTY, say(OTHER, 9),
                   tick(message_told(OTHER, 4)))
        self.assertEqual(told, [[0], [1] + HELD, [0] + message_told(OTHER, 9), [0] + HELD, [0] + message_told(OTHER, 9),
                                [1] + OTHER])

    def test_what_is_said_is_heard(self):
        for held in (NOTHING_HELD, ALL_HELD, HELD, OTHER):
            for number in (0, 1, HALF, ALL_32):
                (told,) = ask(say(held, number))
                self.assertEqual(ticked(told[1:]), [[1] + held])


class TestStartChamber(unittest.TestCase):
    def test_it_goes_by_nothing(self):
        self.assertEqual(ask(START_CHAMBER), [[0]])
        self.assertEqual(ask(START_CHAMBER, EMPTY), [[0], SILENT])

    def test_it_has_no_number(self):
        for number in (0, 1, HALF - 1, HALF, HALF + 1, ALL_32):
            self.assertEqual(ticked(message_told(HELD, number)), [[1] + HELD])

    def test_again_it_goes_by_nothing(self):
        self.assertEqual(ask(START_CHAMBER, tick(message_told(HELD, 9)), START_CHAMBER, EMPTY),
                         [[0], [1] + HELD, [0], SILENT])

    def test_again_it_has_no_number(self):
        told = ask(START_CHAMBER, tick(message_told(HELD, 9)), START_CHAMBER, tick(message_told(OTHER, 8)),
                   START_CHAMBER, tick(message_told(OTHER, 8)))
        self.assertEqual(told, [[0], [1] + HELD, [0], [1] + OTHER, [0], [1] + OTHER])

    def test_again_its_age_is_of_no_weight_to_what_is_taken_then(self):
        calls = [tick(message_told(HELD, 9)), *[EMPTY] * 30, START_CHAMBER, tick(message_told(OTHER, 3))]
        told = ask(START_CHAMBER, *calls, *[EMPTY] * 50)
        self.assertEqual(told[33:], [[1] + OTHER] + [[0] + OTHER] * 49 + [SILENT])


class TestHowManyBytes(unittest.TestCase):
    def test_neither_0_nor_56(self):
        right = message_told(HELD, 5)
        for n in [*range(1, 56), *range(57, 61)]:
            message = (right + [0] * 4)[:n]
            self.assertEqual(ask(START_CHAMBER, tick(message)), [[0], [-22]])

    def test_with_a_check_that_fits(self):
        for n in (1, 51, 52, 55, 57, 60):
            octets = [1] * n if n < 5 else checked([1] * (n - 4))
            self.assertEqual(len(octets), n)
            self.assertEqual(ticked(octets, []), [[-22], SILENT])

    def test_the_chamber_is_as_it_was(self):
        newer = message_told(OTHER, 6)
        for n in (1, 55, 57, 60):
            wrong = (newer + [0] * 4)[:n]
            told = ticked(message_told(HELD, 5), wrong, [], wrong, newer)
            self.assertEqual(told, [[1] + HELD, [-22], [0] + HELD, [-22], [1] + OTHER])

    def test_its_age_too(self):
        for n in (1, 55, 57, 60):
            wrong = tick([0] * n)
            taken = tick(message_told(HELD, 5))
            self.assertEqual(ask(START_CHAMBER, taken, *[wrong, EMPTY] * 49, wrong, EMPTY, wrong, EMPTY),
                             [[0], [1] + HELD, *[[-22], [0] + HELD] * 49, [-22], SILENT, [-22], SILENT])

    def test_at_first(self):
        for n in (1, 55, 57, 60):
            self.assertEqual(ticked([0] * n, [], message_told(HELD, 5)), [[-22], SILENT, [1] + HELD])


class TestTaken(unittest.TestCase):
    def test_no_message(self):
        self.assertEqual(ticked([], [], []), [SILENT] * 3)

    def test_a_right_one(self):
        self.assertEqual(ticked(message_told(HELD, 5)), [[1] + HELD])
        self.assertEqual(ticked(message_told(HELD, 5), []), [[1] + HELD, [0] + HELD])

    def test_all_bits(self):
        self.assertEqual(ticked(message_told(ALL_HELD, ALL_32), []), [[1] + ALL_HELD, [0] + ALL_HELD])
        self.assertEqual(ticked([255] * 52 + [252, 244, 24, 244]), [[1] + [ALL_64] * 5 + [ALL_32] * 2])

    def test_each_field_from_its_place(self):
        for part in range(7):
            for value in (1, 0x80000000, 0x01020304):
                held = list(NOTHING_HELD)
                held[part] = value << 32 if part < 5 else value
                self.assertEqual(ticked(message_told(held, 5)), [[1] + held])

    def test_one_that_tells_nothing_held(self):
        self.assertEqual(ticked(message_told(HELD, 5), message_told(NOTHING_HELD, 6), message_told(OTHER, 5)),
                         [[1] + HELD, [1] + NOTHING_HELD, SILENT])

    def test_doubled(self):
        message = message_told(HELD, 5)
        self.assertEqual(ticked(message, message, message), [[1] + HELD, [0] + HELD, [0] + HELD])

    def test_the_same_number_with_something_else(self):
        self.assertEqual(ticked(message_told(HELD, 5), message_told(OTHER, 5)), [[1] + HELD, [0] + HELD])

    def test_an_older_one(self):
        self.assertEqual(ticked(message_told(HELD, 5), message_told(OTHER, 4), message_told(OTHER, 6)),
                         [[1] + HELD, [0] + HELD, [1] + OTHER])

    def test_newer_ones_one_behind_another(self):
        numbers = [5, 6, 7, 9, 8, 7, 10, 300, 299, 70000, 65536, HALF, HALF + 1, HALF]
        told = ticked(*[message_told([number] + NOTHING_HELD[1:], number) for number in numbers])
        self.assertEqual([answer[:2] for answer in told],
                         [[1, 5], [1, 6], [1, 7], [1, 9], [0, 9], [0, 9], [1, 10], [1, 300], [0, 300], [1, 70000],
                          [0, 70000], [1, HALF], [1, HALF + 1], [0, HALF + 1]])

    def test_how_much_more(self):
        for first in (0, 1, 5, HALF - 1, HALF, HALF + 1, ALL_32 - 1, ALL_32, 0x12345678):
            for more, taken in ((0, 0), (1, 1), (2, 1), (HALF - 2, 1), (HALF - 1, 1), (HALF, 0), (HALF + 1, 0),
                                (ALL_32 - 1, 0), (ALL_32, 0)):
                told = ticked(message_told(HELD, first), message_told(OTHER, (first + more) % 2 ** 32))
                self.assertEqual(told, [[1] + HELD, [taken] + (OTHER if taken else HELD)], (first, more))

    def test_numbers_that_wrap(self):
        told = ticked(*[message_told([k] * 7, number) for k, number in enumerate([ALL_32 - 1, ALL_32, 0, ALL_32, 1])])
        self.assertEqual(told, [[1] + [0] * 7, [1] + [1] * 7, [1] + [2] * 7, [0] + [2] * 7, [1] + [4] * 7])

    def test_one_that_is_not_taken_leaves_the_number(self):
        told = ticked(message_told(HELD, 5), message_told(OTHER, 3), message_told(OTHER, 4))
        self.assertEqual(told, [[1] + HELD, [0] + HELD, [0] + HELD])
        spoilt = message_told(OTHER, 9)[:55] + [0]
        self.assertEqual(hears(tick(message_told(HELD, 5)), tick(spoilt), tick(message_told(OTHER, 6))), [1, 0, 1])


class TestSpoilt(unittest.TestCase):
    def test_a_wrong_check(self):
        right = message_told(OTHER, 6)
        for wrong in (right[:52] + [0] * 4, right[:52] + [255] * 4, right[:52] + right[:51:-1],
                      right[:52] + [255 - octet for octet in right[52:]], [0] * 56, [255] * 56):
            self.assertEqual(ticked(wrong), [SILENT])
            self.assertEqual(ticked(message_told(HELD, 5), wrong, right), [[1] + HELD, [0] + HELD, [1] + OTHER])

    def test_any_bit(self):
        right = message_told(OTHER, 6)
        for bit in range(8 * 56):
            wrong = list(right)
            wrong[bit // 8] ^= 1 << bit % 8
            self.assertEqual(ticked(message_told(HELD, 5), wrong), [[1] + HELD, [0] + HELD], bit)

    def test_it_is_a_tick(self):
        spoilt = tick(message_told(OTHER, 6)[:55] + [0])
        told = ask(START_CHAMBER, tick(message_told(HELD, 5)), *[spoilt] * 50)
        self.assertEqual(told[2:], [[0] + HELD] * 49 + [SILENT])


class TestSilence(unittest.TestCase):
    def test_49_and_50_ticks(self):
        told = ticked(message_told(HELD, 5), *[[]] * 60)
        self.assertEqual(told, [[1] + HELD] + [[0] + HELD] * 49 + [SILENT] * 11)

    def test_one_taken_makes_it_young(self):
        for between in (1, 25, 49):
            told = ticked(message_told(HELD, 5), *[[]] * between, message_told(OTHER, 6), *[[]] * 51)
            self.assertEqual(told[between + 1:], [[1] + OTHER] + [[0] + OTHER] * 49 + [SILENT] * 2)

    def test_doubled_ones_do_not(self):
        message = message_told(HELD, 5)
        told = ticked(*[message] * 52)
        self.assertEqual(told, [[1] + HELD] + [[0] + HELD] * 49 + [SILENT, [1] + HELD])

    def test_older_ones_do_not(self):
        told = ticked(message_told(HELD, 5), *[message_told(OTHER, 4)] * 51)
        self.assertEqual(told, [[1] + HELD] + [[0] + HELD] * 49 + [SILENT, [1] + OTHER])

    def test_one_that_is_newer_at_the_fiftieth_tick(self):
        told = ticked(message_told(HELD, 5), *[[]] * 49, message_told(OTHER, 6))
        self.assertEqual(told[-2:], [[0] + HELD, [1] + OTHER])

    def test_an_older_one_behind_a_silence(self):
        for number in (4, 5, 5 + HALF, 0, ALL_32):
            told = ticked(message_told(HELD, 5), *[[]] * 50, message_told(OTHER, number))
            self.assertEqual(told[50:], [SILENT, [1] + OTHER])
        # At the fiftieth tick itself there's still a number, ahead of the silence.
        told = ticked(message_told(HELD, 5), *[[]] * 49, message_told(OTHER, 4))
        self.assertEqual(told[-2:], [[0] + HELD, SILENT])

    def test_the_number_behind_a_silence_is_the_one_taken_then(self):
        told = ticked(message_told(HELD, 500), *[[]] * 50, message_told(OTHER, 4), message_told(HELD, 4),
                      message_told(HELD, 5))
        self.assertEqual(told[51:], [[1] + OTHER, [0] + OTHER, [1] + HELD])

    def test_a_long_silence(self):
        told = ticked(message_told(HELD, 5), *[[]] * 1000, message_told(OTHER, 4), *[[]] * 50)
        self.assertEqual(told[50:1001], [SILENT] * 951)
        self.assertEqual(told[1001:], [[1] + OTHER] + [[0] + OTHER] * 49 + [SILENT])

    def test_the_pistons_start_is_another(self):
        told = ask(START_CHAMBER, tick(message_told(HELD, 5)), start(), EMPTY, tick(message_told(OTHER, 4)))
        self.assertEqual(told, [[0], [1] + HELD, [0], [0] + HELD, [0] + HELD])


if __name__ == "__main__":
    unittest.main()
