"""Part 2, promises 7 and 8: page and load."""

import unittest

from tests.helper import (ALL_32, ALL_64, BACK, MASKS, NOW, PISTONS, ask, bits, checked, crc_32c, drawn_after, hand,
                          load, page, page_told, press, set_on, start, whole_after)


def page_after(level, *calls):
    answer = ask(*calls, page(level))[-1]
    assert len(answer) == 465 and answer[0] == 0, answer
    return answer[1:]


def fields_but_zero(octets):
    """The bytes ahead of the check that aren't 0, by their places."""
    return {place: octet for place, octet in enumerate(octets[:460]) if octet}


class TestTheCheck(unittest.TestCase):
    """The check that the tests tell anew is a CRC-32C: these are known ones."""

    def test_known_checks(self):
        self.assertEqual(crc_32c(b"123456789"), 0xE3069283)
        self.assertEqual(crc_32c([0] * 32), 0x8A9136AA)
        self.assertEqual(crc_32c([255] * 32), 0x62A8AB43)
        self.assertEqual(crc_32c(range(32)), 0x46DD794E)


class TestPage(unittest.TestCase):
    def test_a_level_that_was_never_set(self):
        self.assertEqual(page_after(0, start()), [0] * 460 + [150, 85, 149, 90])
        self.assertEqual(page_after(7, start()), [7] + [0] * 459 + [83, 102, 4, 95])
        for level in range(8):
            self.assertEqual(ask(start(), page(level)), [[0], [0] + checked([level] + [0] * 459)])

    def test_no_such_level(self):
        self.assertEqual(len(ask(start(), page(7))[1]), 465)
        for level in (8, 9, 255, 256, ALL_32):
            self.assertEqual(ask(start(), page(level)), [[0], [-22]])

    def test_it_changes_nothing(self):
        calls = [start(), hand(5, 6), set_on(0, 0, 0), hand(7, 8), press(0, 0, 0), hand(9, 9)]
        self.assertEqual(whole_after(*calls, page(0), page(1), page(8)), whole_after(*calls))

    def test_each_general_at_its_place(self):
        drawn = hand(0x0102030405060708, 0x11121314)
        for n in range(16):
            octets = page_after(2, start(), drawn, set_on(2, 0, n))
            expected = {0: 2, 2 + n // 8: 1 << n % 8, 8: 1}
            expected.update(zip(range(12 + 12 * n, 24 + 12 * n), [8, 7, 6, 5, 4, 3, 2, 1, 0x14, 0x13, 0x12, 0x11]))
            self.assertEqual(fields_but_zero(octets), expected)
            self.assertEqual(octets, checked(octets[:460]))

    def test_each_divisional_at_its_place(self):
        stops = 0x8102030405060788
        for kind in (1, 2, 3, 4):
            masks = [0, 0, 0, 0]
            masks[kind - 1] = ALL_64
            for n in range(8):
                octets = page_after(7, start(masks), hand(stops, ALL_32), set_on(7, kind, n))
                place = 204 + 64 * (kind - 1) + 8 * n
                expected = {0: 7, 3 + kind: 1 << n, 8: 1}
                expected.update(zip(range(place, place + 8), [0x88, 7, 6, 5, 4, 3, 2, 0x81]))
                self.assertEqual(fields_but_zero(octets), expected)
                self.assertEqual(octets, checked(octets[:460]))

    def test_a_divisional_has_its_divisions_stops_alone(self):
        for kind in (1, 2, 3, 4):
            octets = page_after(1, start(), hand(ALL_64, ALL_32), set_on(1, kind, 0))
            self.assertEqual(octets, page_told(1, 1, {(kind, 0): (MASKS[kind - 1], 0)}))

    def test_the_count(self):
        calls = [start(), *[set_on(4, 0, 0)] * 260]
        self.assertEqual(page_after(4, *calls)[8:12], [4, 1, 0, 0])
        there = page_told(4, 0x01020304)
        self.assertEqual(page_after(4, start(), load(4, there, there))[8:12], [4, 3, 2, 1])
        self.assertEqual(page_after(4, start(), load(4, there, there), set_on(4, 0, 0))[8:12], [5, 3, 2, 1])

    def test_one_that_is_set_with_nothing_drawn_is_not_empty(self):
        octets = page_after(0, start(), set_on(0, 0, 3), set_on(0, 2, 4))
        self.assertEqual(fields_but_zero(octets), {2: 8, 5: 16, 8: 2})

    def test_all_bits(self):
        for kind in (0, 1, 2, 3, 4):
            masks = [0, 0, 0, 0]
            masks[kind - 1] = ALL_64
            pistons = [piston for piston in PISTONS if piston[0] == kind]
            octets = page_after(0, start(masks), hand(ALL_64, ALL_32), *[set_on(0, *piston) for piston in pistons])
            contents = {piston: (ALL_64, 0 if kind else ALL_32) for piston in pistons}
            self.assertEqual(octets, page_told(0, len(pistons), contents))

    def test_of_its_own_level(self):
        calls = [start(), hand(3, 4), set_on(0, 0, 0), hand(5, 6), set_on(7, 0, 0)]
        self.assertEqual(page_after(0, *calls), page_told(0, 1, {(0, 0): (3, 4)}))
        self.assertEqual(page_after(3, *calls), page_told(3))
        self.assertEqual(page_after(7, *calls), page_told(7, 1, {(0, 0): (5, 6)}))

    def test_to_the_letter(self):
        octets = page_after(6, start([1, 2, 4, 8]), hand(15, 9), set_on(6, 0, 15), set_on(6, 4, 7), set_on(6, 4, 7))
        expected = [6, 0, 0, 128, 0, 0, 0, 128, 3, 0, 0, 0] + [0] * 180 + [15] + [0] * 7 + [9, 0, 0, 0]
        expected += [0] * 248 + [8] + [0] * 7
        self.assertEqual(octets[:460], expected)
        self.assertEqual(octets[460:], [crc_32c(expected) >> shift & 255 for shift in (0, 8, 16, 24)])


THERE = {(0, 0): (bits(0, 40), 1), (0, 15): (ALL_64, ALL_32), (1, 0): (bits(1, 2), 0), (4, 7): (bits(63), 0)}
RIGHT = page_told(3, 500, THERE)
OTHER = {(0, 2): (bits(7), 5), (2, 3): (bits(9), 0)}

# Level 3 has something, and something was before; levels 2 and 4, too.
BEGUN = [start(), hand(bits(0, 9), 5), set_on(3, 0, 7), set_on(2, 0, 7), set_on(4, 2, 7), press(3, 0, 7),
         hand(bits(1, 63), 6)]


def wrong_pages():
    """Pages that aren't right for level 3, each by one thing alone, with why."""
    found = [("a page of another level", page_told(level, 500, THERE)) for level in (0, 2, 4, 7, 8, 11, 131, 255)]
    found += [("its second byte", page_told(3, 500, THERE, second=second)) for second in (1, 3, 128, 255)]
    for place in (0, 1, 2, 7, 8, 11, 12, 100, 203, 204, 300, 459, 460, 461, 462, 463):
        for bit in (0, 7):
            found.append((f"a bit of byte {place}", RIGHT[:place] + [RIGHT[place] ^ 1 << bit] + RIGHT[place + 1:]))
    found += [("no check", RIGHT[:460] + [0] * 4), ("all 0", [0] * 464), ("all ones", [255] * 464),
              ("its check turned about", RIGHT[:460] + RIGHT[:459:-1]),
              ("a check not turned about at the end", RIGHT[:460] + [255 - octet for octet in RIGHT[460:]])]
    for n in (1, 14):
        for hidden in ((1, 0), (bits(63), 0), (0, 1), (0, bits(31)), (ALL_64, ALL_32)):
            found.append((f"empty general {n}", page_told(3, 500, THERE, hidden={(0, n): hidden})))
    for kind, n in ((1, 1), (1, 7), (2, 0), (3, 3), (4, 0), (4, 6)):
        for stops in (bits(0), bits(63), MASKS[kind - 1], ALL_64):
            if stops:
                found.append((f"empty divisional {kind} {n}", page_told(3, 500, THERE, hidden={(kind, n): (stops, 0)})))
    for kind in (1, 2, 3, 4):
        others = sum(MASKS) - MASKS[kind - 1]
        for stops in (others, bits(40), MASKS[kind - 1] | bits(40), MASKS[kind - 1] | others, ALL_64):
            for n in (0, 7):
                contents = {**THERE, (kind, n): (stops, 0)}
                found.append((f"divisional {kind} {n} has others' stops", page_told(3, 500, contents)))
    return found


class TestLoad(unittest.TestCase):
    def loads(self, number, a, b, expected, calls=None):
        """Level 3 is loaded, answers this number, and has this page then; nothing else changes."""
        calls = BEGUN if calls is None else calls
        told = ask(*calls, load(3, a, b), page(3))[len(calls):]
        self.assertEqual(told, [[number], [0] + expected])
        ahead, behind = whole_after(*calls), whole_after(*calls, load(3, a, b))
        ahead[4] = [0] + expected
        self.assertEqual(behind, ahead)

    def test_a_right_and_b_not(self):
        for why, wrong in wrong_pages()[::5]:
            self.loads(1, RIGHT, wrong, RIGHT)

    def test_b_right_and_a_not(self):
        for why, wrong in wrong_pages()[::5]:
            self.loads(2, wrong, RIGHT, RIGHT)

    def test_neither_right(self):
        wrong = [octets for why, octets in wrong_pages()]
        for a, b in zip(wrong[::5], wrong[1::5]):
            self.loads(0, a, b, page_told(3))
        self.assertEqual(ask(*BEGUN, load(3, wrong[0], wrong[0]), press(3, 0, 7), set_on(3, 0, 1), page(3))[-3:],
                         [[-2], [0], [0] + page_told(3, 1, {(0, 1): (bits(1, 63), 6)})])

    def test_both_right(self):
        for count, other, number in ((500, 499, 1), (500, 500, 1), (500, 501, 2), (0, 0, 1), (0, 1, 2), (1, 0, 1),
                                     (ALL_32, ALL_32, 1), (ALL_32, 0, 1), (0, ALL_32, 2), (255, 256, 2), (256, 255, 1),
                                     (0x01000000, 0x00FFFFFF, 1), (0x7FFFFFFF, 0x80000000, 2)):
            a, b = page_told(3, count, THERE), page_told(3, other, OTHER)
            self.loads(number, a, b, a if number == 1 else b)

    def test_a_greater_count_of_a_page_that_is_not_right(self):
        greater = page_told(4, 501, OTHER)
        self.loads(1, RIGHT, greater, RIGHT)
        self.loads(2, greater, RIGHT, RIGHT)

    def test_what_was_on_the_level_does_not_matter(self):
        full = page_told(3, ALL_32, OTHER)
        for calls in ([start()], [start(), load(3, full, full)]):
            self.loads(1, RIGHT, RIGHT, RIGHT, calls)
            self.loads(0, full[:463] + [full[463] ^ 1], [0] * 464, page_told(3), calls)

    def test_each_page_that_is_not_right(self):
        empty = [0] + page_told(3)
        for why, wrong in wrong_pages():
            told = ask(start(), load(3, wrong, RIGHT), load(3, RIGHT, wrong), load(3, wrong, wrong), page(3))
            self.assertEqual(told, [[0], [2], [1], [0], empty], why)

    def test_pages_that_are_right(self):
        every = {piston: (ALL_64, ALL_32) if piston[0] == 0 else (MASKS[piston[0] - 1], 0) for piston in PISTONS}
        for contents in ({}, THERE, OTHER, every, {piston: (0, 0) for piston in PISTONS}):
            for count in (0, 1, ALL_32):
                for level in (0, 3, 7):
                    octets = page_told(level, count, contents)
                    told = ask(start(), load(level, octets, octets), page(level), load(level, [0] * 464, octets),
                               page(level))
                    self.assertEqual(told, [[0], [1], [0] + octets, [2], [0] + octets])

    def test_by_the_masks_there_are_now(self):
        octets = page_told(3, 1, {(2, 0): (bits(1), 0)})
        told = ask(start([0, bits(1), 0, 0]), load(3, octets, octets), start([bits(1), 0, 0, 0]),
                   load(3, octets, octets), start([1, bits(1), 0, 0]), load(3, octets, octets))
        self.assertEqual(told, [[0], [1], [0], [0], [0], [1]])

    def test_no_such_level(self):
        for level in (8, 9, 255, 256, ALL_32):
            octets = page_told(level % 256, 500, THERE)
            for a, b in ((octets, octets), (RIGHT, RIGHT), ([0] * 464, [0] * 464)):
                self.assertEqual(ask(*BEGUN, load(level, a, b), NOW)[len(BEGUN):], [[-22], [0, bits(1, 63), 6]])
                self.assertEqual(whole_after(*BEGUN, load(level, a, b)), whole_after(*BEGUN))

    def test_what_is_loaded_comes_by_its_pistons(self):
        calls = [start(), load(3, RIGHT, RIGHT), hand(bits(0, 8), 2)]
        self.assertEqual(drawn_after(*calls, press(3, 0, 0)), (bits(0, 40), 1))
        self.assertEqual(drawn_after(*calls, press(3, 0, 15)), (ALL_64, ALL_32))
        self.assertEqual(drawn_after(*calls, press(3, 1, 0)), (bits(1, 2, 8), 2))
        self.assertEqual(drawn_after(*calls, press(3, 4, 7)), (bits(0, 8, 63), 2))
        for kind, n in PISTONS:
            self.assertEqual(ask(*calls, press(3, kind, n))[-1], [0] if (kind, n) in THERE else [-2])

    def test_what_was_before_stays(self):
        calls = [start(), set_on(3, 0, 0), hand(5, 6), press(3, 0, 0), hand(7, 8), load(3, RIGHT, RIGHT)]
        self.assertEqual(ask(*calls, NOW, BACK, NOW, BACK)[-4:], [[0, 7, 8], [0], [0, 5, 6], [-2]])

    def test_set_goes_on_from_the_page(self):
        told = ask(start(), load(3, RIGHT, RIGHT), hand(1, 2), set_on(3, 0, 1), page(3), load(3, RIGHT, RIGHT), page(3))
        self.assertEqual(told[4], [0] + page_told(3, 501, {**THERE, (0, 1): (1, 2)}))
        self.assertEqual(told[6], [0] + RIGHT)


if __name__ == "__main__":
    unittest.main()
