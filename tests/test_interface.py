"""The interface: calls in one list of whole numbers, answers in another; nothing changed, nothing kept."""

import unittest

from keydesk.desk import UnknownCall, answers
from tests.helper import ALL_KEYS, BACK, Organ, ask, bits, hand, press, random_organs, set_on, start


class Watched(list):
    """A list that tells if it's changed, though it be for a while."""

    def refuse(self, *ignored):
        raise AssertionError("the list was changed")

    append = extend = insert = pop = remove = clear = sort = reverse = refuse
    __setitem__ = __delitem__ = __iadd__ = __imul__ = refuse


def mixed_calls():
    calls = [start()]
    for number, organ in enumerate(random_organs(8, 12)):
        calls += [organ.pipes_call(), hand(number, number), organ.why_call(0, number), set_on(number % 9, 0, number),
                  press(number % 9, 0, number), organ.but(divisions=9).pipes_call(), BACK]
    return calls


class TestLists(unittest.TestCase):
    def test_the_answers_to_the_letter(self):
        organ = Organ(keys=[bits(2), 0, 0, 0], held_stops=1)
        calls = (start() + organ.pipes_call() + organ.why_call(0, 2) + organ.why_call(0, 3) + [11, 1, 2] + [14]
                 + organ.but(off=8).pipes_call())
        expected = [1, 0, 33, 1, 4] + [0] * 31 + [5, 0, 0, 2, 255, 2, 1, -2, 1, 0, 1, -2, 1, -71]
        self.assertEqual(answers(calls), expected)

    def test_the_calls_to_the_letter(self):
        held = [2, 1, 2, 2]
        rows = [1, 61, 5, 0, 0, 0, 60, 0, 6, 1, 0, 0, 0, 0, -12, 4, 4096, 0, 0, 0]
        self.assertEqual(answers([0] + held + rows), [33, 2, 4097] + [0] * 31)
        self.assertEqual(answers([1] + held + [0, 0] + rows), [5, 0, 0, 0, 1, 12])
        self.assertEqual(answers([10, 4, 1, 2, 4, 8, 12, 7, 4, 3, 13, 7, 4, 3, 14]), [1, 0] * 4)

    def test_whole_numbers_in_a_list(self):
        told = answers([number for call in mixed_calls() for number in call])
        self.assertIs(type(told), list)
        self.assertEqual({type(number) for number in told}, {int})

    def test_mixed_calls_answer_as_each_part_by_itself(self):
        calls = mixed_calls()
        told = ask(*calls)
        self.assertEqual(len(told), len(calls))
        of_keys = [place for place, call in enumerate(calls) if call[0] < 10]
        of_pistons = [place for place, call in enumerate(calls) if call[0] >= 10]
        self.assertEqual(ask(*[calls[place] for place in of_keys]), [told[place] for place in of_keys])
        self.assertEqual(ask(*[calls[place] for place in of_pistons]), [told[place] for place in of_pistons])
        for place in of_keys:
            self.assertEqual(ask(calls[place]), [told[place]])

    def test_calls_of_keys_need_no_start(self):
        organ = Organ(keys=[1, 0, 0, 0], held_stops=1)
        told = ask(organ.why_call(0, 0), start(), organ.why_call(0, 0))
        self.assertEqual(told, [[0, 0, 0, 255, 0], [0], [0, 0, 0, 255, 0]])

    def test_1500_calls(self):
        told = ask(start(), *[set_on(0, 0, 0), press(0, 0, 0), BACK, BACK, hand(1, 1)] * 299, BACK, BACK, BACK, BACK)
        self.assertEqual(told, [[0]] + [[0], [0], [0], [-2], [0]] * 299 + [[-2]] * 4)
        self.assertEqual(len(told), 1500)

    def test_a_full_list_of_great_plans(self):
        organ = Organ(divisions=4, pipes=[97] * 16, stops=[(k % 4, k % 16, 0, 60, 36) for k in range(64)],
                      couplers=[(k % 4, (k + 1) % 4, 12) for k in range(32)], keys=[ALL_KEYS] * 4,
                      held_stops=2 ** 64 - 1, held_couplers=2 ** 32 - 1)
        call = organ.pipes_call()
        count = 16000 // len(call)
        expected = [61 * 16] + [bits(*range(36, 64)), bits(*range(33))] * 16
        self.assertEqual(ask(*[call] * count), [expected] * count)

    def test_a_number_that_no_call_has(self):
        for number in (2, 9, 18, 19, 23, -1):
            with self.assertRaises(UnknownCall):
                answers(start() + [number])


class TestNothingChangedNothingKept(unittest.TestCase):
    def test_the_list_is_as_it_was(self):
        calls = [number for call in mixed_calls() for number in call]
        watched = Watched(calls)
        answers(watched)
        self.assertEqual(list(watched), calls)

    def test_asked_twice(self):
        calls = [number for call in mixed_calls() for number in call]
        self.assertEqual(answers(calls), answers(calls))

    def test_a_list_knows_nothing_of_the_one_before(self):
        self.assertEqual(ask(start(), set_on(0, 0, 0), press(0, 0, 0), BACK), [[0]] * 4)
        self.assertEqual(ask(start(), press(0, 0, 0), BACK), [[0], [-2], [-2]])
        self.assertEqual(ask(start([1, 1, 0, 0]), start()), [[-22], [0]])

    def test_changing_the_answer_changes_nothing(self):
        calls = [number for call in mixed_calls() for number in call]
        told = answers(calls)
        kept = list(told)
        told.clear()
        self.assertEqual(answers(calls), kept)


if __name__ == "__main__":
    unittest.main()
