"""The interface: calls in one list of whole numbers, answers in another; nothing changed, nothing kept."""

import unittest

from keydesk.desk import UnknownCall, answers
from tests.helper import (ALL_HELD, ALL_KEYS, BACK, NOTHING_HELD, NOW, START_CHAMBER, Organ, ask, bits, hand, load,
                          message_told, page, page_told, press, random_organs, say, set_on, start, tick)


class Watched(list):
    """A list that tells if it's changed, though it be for a while."""

    def refuse(self, *ignored):
        raise AssertionError("the list was changed")

    append = extend = insert = pop = remove = clear = sort = reverse = refuse
    __setitem__ = __delitem__ = __iadd__ = __imul__ = refuse


def mixed_calls():
    """Calls of all three parts, refused ones too."""
    calls = [start(), START_CHAMBER]
    for number, organ in enumerate(random_organs(8, 12)):
        level, held = number % 9, [number] * 7
        calls += [organ.pipes_call(), hand(number, number), say(held, number), organ.why_call(0, number),
                  set_on(level, 0, number), tick(message_told(held, number)), NOW, press(level, 0, number), tick(),
                  organ.but(divisions=9).pipes_call(), page(level), tick([number] * (50 + number)), BACK, NOW]
        if number % 3 == 0:
            calls += [load(level, page_told(level, number, {(0, 1): (5, 6)}), [0] * 464), page(level)]
    return calls + [START_CHAMBER, tick(), NOW, start(), tick(message_told(ALL_HELD, 3)), NOW, page(0), tick()]


def part_of(call):
    return call[0] // 10


class TestLists(unittest.TestCase):
    def test_the_answers_to_the_letter(self):
        organ = Organ(keys=[bits(2), 0, 0, 0], held_stops=1)
        calls = (start() + organ.pipes_call() + organ.why_call(0, 2) + organ.why_call(0, 3) + [11, 1, 2] + [14]
                 + organ.but(off=8).pipes_call())
        expected = [1, 0, 33, 1, 4] + [0] * 31 + [5, 0, 0, 2, 255, 2, 1, -2, 1, 0, 1, -2, 1, -71]
        self.assertEqual(answers(calls), expected)

    def test_the_calls_to_the_letter(self):
        held = [2, 1, 2, 2]
        rows = [1, 61, 5, 0, 0, 0, 60, 0, 6, 1, 0, 0, 0, 0, -12, 4, 4096, 0, 0, 0]
        self.assertEqual(answers([0] + held + rows), [33, 2, 4097] + [0] * 31)
        self.assertEqual(answers([1] + held + [0, 0] + rows), [5, 0, 0, 0, 1, 12])
        self.assertEqual(answers([10, 4, 1, 2, 4, 8, 12, 7, 4, 3, 13, 7, 4, 3, 14]), [1, 0] * 4)

    def test_the_calls_of_pages_and_of_the_line_to_the_letter(self):
        empty = [5] + [0] * 459 + page_told(5)[460:]
        calls = [10, 4, 1, 2, 4, 8, 11, 3, 9, 15, 16, 5, 17, 5, 464, *empty, 464, *[0] * 464, 16, 8, 15]
        expected = [1, 0, 1, 0, 3, 0, 3, 9, 465, 0, *empty, 1, 1, 1, -22, 3, 0, 3, 9]
        self.assertEqual(answers(calls), expected)
        message = message_told([1, 2, 3, 4, 5, 6, 7], 8)
        calls = [20, 5, 6, 7, 8, 4, 1, 2, 3, 4, 21, 22, 56, *message, 22, 0, 22, 1, 9, 21, 22, 0]
        expected = [57, 0, *message, 1, 0, 8, 1, 1, 2, 3, 4, 5, 6, 7, 8, 0, 1, 2, 3, 4, 5, 6, 7, 1, -22, 1, 0,
                    8, 0, 0, 0, 0, 0, 0, 0, 0]
        self.assertEqual(answers(calls), expected)

    def test_whole_numbers_in_a_list(self):
        told = answers([number for call in mixed_calls() for number in call])
        self.assertIs(type(told), list)
        self.assertEqual({type(number) for number in told}, {int})

    def test_mixed_calls_answer_as_each_part_by_itself(self):
        calls = mixed_calls()
        told = ask(*calls)
        self.assertEqual(len(told), len(calls))
        for part in (0, 1, 2):
            places = [place for place, call in enumerate(calls) if part_of(call) == part]
            self.assertGreater(len(places), 20)
            self.assertEqual(ask(*[calls[place] for place in places]), [told[place] for place in places])

    def test_how_many_numbers_each_answers(self):
        lengths = {0: 33, 1: 5, 15: 3, 16: 465, 20: 57, 22: 8}
        calls = mixed_calls()
        for call, answer in zip(calls, ask(*calls)):
            self.assertEqual(len(answer), 1 if answer[0] < 0 else lengths.get(call[0], 1), call)

    def test_calls_of_keys_and_say_are_each_by_itself(self):
        calls = mixed_calls()
        for call, answer in zip(calls, ask(*calls)):
            if call[0] in (0, 1, 20):
                self.assertEqual(ask(call), [answer])

    def test_one_part_changes_nothing_in_another(self):
        organ = Organ(keys=[1, 0, 0, 0], held_stops=1)
        of_part = [[organ.pipes_call(), organ.why_call(0, 0), organ.but(off=8).why_call(0, 0)],
                   [hand(1, 2), set_on(0, 0, 0), press(0, 0, 0), BACK, NOW, page(0), load(0, [0] * 464, page_told(0))],
                   [say(ALL_HELD, 9), tick(message_told(ALL_HELD, 9)), tick(), tick([1])]]
        for part in (0, 1, 2):
            alone = [start(), START_CHAMBER, *of_part[part]]
            for other in {0, 1, 2} - {part}:
                mixed = [start(), START_CHAMBER]
                for call in of_part[part]:
                    mixed += [*of_part[other], call]
                told = ask(*mixed)[2:]
                size = len(of_part[other]) + 1
                self.assertEqual(told[size - 1::size], ask(*alone)[2:])

    def test_calls_of_keys_need_no_start(self):
        organ = Organ(keys=[1, 0, 0, 0], held_stops=1)
        told = ask(organ.why_call(0, 0), start(), organ.why_call(0, 0))
        self.assertEqual(told, [[0, 0, 0, 255, 0], [0], [0, 0, 0, 255, 0]])

    def test_1500_calls(self):
        told = ask(start(), *[set_on(0, 0, 0), press(0, 0, 0), BACK, BACK, hand(1, 1)] * 299, BACK, BACK, BACK, BACK)
        self.assertEqual(told, [[0]] + [[0], [0], [0], [-2], [0]] * 299 + [[-2]] * 4)
        self.assertEqual(len(told), 1500)

    def test_1500_calls_with_great_answers(self):
        told = ask(start(), START_CHAMBER, *[page(7), say(NOTHING_HELD, 0), tick(), NOW] * 374, page(8), page(8))
        of_each = [[0] + page_told(7), [0] + message_told(NOTHING_HELD, 0), [0] * 8, [0] * 3]
        self.assertEqual(told, [[0], [0]] + of_each * 374 + [[-22], [-22]])
        self.assertEqual(len(told), 1500)

    def test_a_full_list_of_pages_and_of_messages(self):
        octets = page_told(2, 3, {(0, 0): (1, 1)})
        self.assertEqual(ask(start(), *[load(2, octets, octets)] * 17), [[0]] + [[1]] * 17)
        messages = [message_told([number] * 7, number) for number in range(275)]
        self.assertEqual(ask(START_CHAMBER, *[tick(message) for message in messages]),
                         [[0]] + [[1] + [number] * 7 for number in range(275)])

    def test_a_full_list_of_great_plans(self):
        organ = Organ(divisions=4, pipes=[97] * 16, stops=[(k % 4, k % 16, 0, 60, 36) for k in range(64)],
                      couplers=[(k % 4, (k + 1) % 4, 12) for k in range(32)], keys=[ALL_KEYS] * 4,
                      held_stops=2 ** 64 - 1, held_couplers=2 ** 32 - 1)
        call = organ.pipes_call()
        count = 16000 // len(call)
        expected = [61 * 16] + [bits(*range(36, 64)), bits(*range(33))] * 16
        self.assertEqual(ask(*[call] * count), [expected] * count)

    def test_a_number_that_no_call_has(self):
        for number in (2, 9, 18, 19, 23, -1):
            with self.assertRaises(UnknownCall):
                answers(start() + START_CHAMBER + [number])


class TestNothingChangedNothingKept(unittest.TestCase):
    def test_the_list_is_as_it_was(self):
        calls = [number for call in mixed_calls() for number in call]
        watched = Watched(calls)
        answers(watched)
        self.assertEqual(list(watched), calls)

    def test_asked_twice(self):
        calls = [number for call in mixed_calls() for number in call]
        self.assertEqual(answers(calls), answers(calls))

    def test_a_list_knows_nothing_of_the_one_before(self):
        self.assertEqual(ask(start(), set_on(0, 0, 0), press(0, 0, 0), BACK), [[0]] * 4)
        self.assertEqual(ask(start(), press(0, 0, 0), BACK), [[0], [-2], [-2]])
        self.assertEqual(ask(start([1, 1, 0, 0]), start()), [[-22], [0]])
        octets = page_told(0, 4, {(0, 0): (1, 2)})
        self.assertEqual(ask(start(), hand(5, 6), load(0, octets, octets), NOW), [[0], [0], [1], [0, 5, 6]])
        self.assertEqual(ask(start(), NOW, page(0)), [[0], [0, 0, 0], [0] + page_told(0)])
        self.assertEqual(ask(START_CHAMBER, tick(message_told(ALL_HELD, 9))), [[0], [1] + ALL_HELD])
        self.assertEqual(ask(START_CHAMBER, tick(), tick(message_told(ALL_HELD, 8))),
                         [[0], [0] + NOTHING_HELD, [1] + ALL_HELD])

    def test_changing_the_answer_changes_nothing(self):
        calls = [number for call in mixed_calls() for number in call]
        told = answers(calls)
        kept = list(told)
        told.clear()
        self.assertEqual(answers(calls), kept)


if __name__ == "__main__":
    unittest.main()
