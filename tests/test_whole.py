"""Part 3, promise 4, and what holds of the whole, 1 to 3."""

import random
import unittest

from tests.helper import (ALL_32, ALL_64, ALL_KEYS, BACK, MASKS, NOTHING_HELD, NOW, PISTONS, START_CHAMBER, Organ, ask,
                          crc_32c, hand, load, message_told, page, press, random_held, set_on, start, tick)

# Every key leads to a pipe, and every division is coupled to itself and to the next.
LOUD = Organ(divisions=4, pipes=[97] * 16, stops=[(k % 4, k % 16, 0, 60, k % 37) for k in range(64)],
             couplers=[(k % 4, (k + k // 4) % 4, 12) for k in range(32)])


def held_there(source):
    """What may be held on LOUD."""
    return [source.choice([ALL_KEYS, source.getrandbits(61)]) for _ in range(4)] + [
        source.choice([ALL_64, source.getrandbits(64)]), source.getrandbits(32), source.getrandbits(4)]


def pipes_for(held):
    """How many pipes of LOUD speak by what's gone by."""
    organ = LOUD.but(keys=held[:4], held_stops=held[4], held_couplers=held[5], off=held[6])
    return ask(organ.pipes_call())[0][0]


def spoil(source, message):
    """A message with some bits turned; none of these is right."""
    spoilt = list(message)
    while spoilt == message:
        for _ in range(source.randint(1, 6)):
            spoilt[source.randrange(56)] ^= 1 << source.randrange(8)
    assert crc_32c(spoilt[:52]) != int.from_bytes(spoilt[52:], "little")
    return spoilt


def line(source, messages, how_many):
    """What a line makes of messages, each with its place or None: lost, doubled, turned about, spoilt."""
    heard = []
    place = 0
    while len(heard) < how_many:
        place = min(place + source.choice([0, 0, 1, 1, 2, 5]), len(messages) - 1)
        chosen = max(0, min(place + source.choice([0, 0, 0, -1, -2, -7, 3]), len(messages) - 1))
        kind = source.randint(0, 39)
        if kind == 0:
            heard += [(None, [])] * source.choice([48, 49, 50, 51])
        elif kind < 6:
            heard.append((None, []))
        elif kind < 14:
            heard.append((None, spoil(source, messages[chosen])))
        else:
            heard += [(chosen, messages[chosen])] * source.choice([1, 1, 1, 2])
    return heard


class Words:
    """The chamber as the document tells it, told anew; numbers by their order, as they were said."""

    def __init__(self):
        self.place, self.age = None, 50

    def tick(self, place):
        """Which message is taken or None, and which is gone by then."""
        taken = place is not None and (self.place is None or place > self.place)
        if taken:
            self.place, self.age = place, 0
        else:
            self.age = min(50, self.age + 1)
        if self.age == 50:
            self.place = None
        return taken, self.place


class TestTheLine(unittest.TestCase):
    def lines(self):
        source = random.Random(11)
        for _ in range(30):
            first = source.choice([0, 1, 2 ** 31 - 20, ALL_32 - 20, source.getrandbits(32)])
            step = source.choice([1, 1, 3, 1000, 2 ** 23])
            numbers = [(first + step * k) % 2 ** 32 for k in range(250)]
            # The first set of keys tells the message's place, so that no two are the same and none is nothing.
            held = [[place + 1] + random_held(source)[1:] for place in range(250)]
            messages = [message_told(*pair) for pair in zip(held, numbers)]
            heard = line(source, messages, 200)
            told = ask(START_CHAMBER, *[tick(message) for place, message in heard])[1:]
            yield held, heard, told

    def test_against_the_words(self):
        taken_in_all = 0
        for held, heard, told in self.lines():
            words = Words()
            for (place, message), answer in zip(heard, told):
                taken, gone_by = words.tick(place)
                taken_in_all += taken
                self.assertEqual(answer, [int(taken)] + (NOTHING_HELD if gone_by is None else held[gone_by]))
        self.assertGreater(taken_in_all, 1000)

    def test_what_is_gone_by_was_told_or_is_nothing(self):
        for held, heard, told in self.lines():
            got = [NOTHING_HELD]
            for (place, message), answer in zip(heard, told):
                if place is not None:
                    got.append(held[place])
                self.assertIn(answer[1:], got)

    def test_never_back_to_an_older_one_but_through_silence(self):
        for held, heard, told in self.lines():
            latest = -1
            for answer in told:
                if answer[1:] == NOTHING_HELD:
                    latest = -1
                else:
                    place = answer[1] - 1
                    self.assertGreaterEqual(place, latest)
                    latest = place

    def test_silent_behind_50_ticks_without_one_that_is_taken(self):
        silences = 0
        for held, heard, told in self.lines():
            for place in range(50, len(told)):
                if not any(answer[0] for answer in told[place - 49:place + 1]):
                    silences += 1
                    self.assertEqual(told[place], [0] + NOTHING_HELD)
        self.assertGreater(silences, 20)

    def test_in_any_order(self):
        source = random.Random(12)
        for _ in range(50):
            held = [random_held(source) for _ in range(30)]
            order = [source.randrange(30) for _ in range(40)]
            told = ask(START_CHAMBER, *[tick(message_told(held[place], place)) for place in order])[1:]
            for k, answer in enumerate(told):
                self.assertEqual(answer[1:], held[max(order[:k + 1])])


class TestTheWhole(unittest.TestCase):
    def test_as_it_was_said(self):
        source = random.Random(13)
        for _ in range(20):
            said = [[20, *held[4:], number, 4, *held[:4]]
                    for number, held in enumerate([random_held(source) for _ in range(20)])]
            messages = [answer[1:] for answer in ask(*said)]
            for message, call, answer in zip(messages, said, ask(START_CHAMBER, *map(tick, messages))[1:]):
                self.assertEqual(answer, [1, *call[6:], *call[1:4]])

    def test_dead_line_silence(self):
        source = random.Random(14)
        for _ in range(20):
            held = held_there(source)
            message = message_told(held, 7)
            dead = [source.choice([[], message, spoil(source, message), message_told(held, 6)]) for _ in range(50)]
            told = ask(START_CHAMBER, tick(message), *[tick(heard) for heard in dead])[1:]
            self.assertEqual([answer[0] for answer in told], [1] + [0] * 50)
            for answer in (told[0], told[49]):
                self.assertEqual(pipes_for(answer[1:]), pipes_for(held))
            self.assertEqual(pipes_for(told[50][1:]), 0)

    def test_there_was_something_to_fall_silent(self):
        self.assertGreater(pipes_for([ALL_KEYS] * 4 + [ALL_64, 0, 0]), 900)

    def test_as_it_was_set(self):
        source = random.Random(15)
        for _ in range(30):
            calls, was_set = [start()], {}
            for _ in range(60):
                level, kind, n = (source.randint(0, 7),) + source.choice(PISTONS)
                stops, couplers = source.getrandbits(64), source.getrandbits(32)
                calls += [hand(stops, couplers), set_on(level, kind, n)]
                calls += source.choice([[BACK], [press(level, kind, n)], [START_CHAMBER, tick([])], [page(level)]])
                if kind == 0:
                    was_set[level, n] = [0, stops, couplers]
            pressed = [call for level, n in was_set for call in (press(level, 0, n), NOW)]
            self.assertEqual(ask(*calls, *pressed)[len(calls):],
                             [answer for drawn in was_set.values() for answer in ([0], drawn)])

    def test_from_the_console_to_the_pipes(self):
        """A general is set, comes back over page and load, is said, heard, and makes the pipes speak."""
        source = random.Random(16)
        for _ in range(10):
            held = held_there(source)
            (_, _, _, told, _, _, now) = ask(start(), hand(held[4], held[5]), set_on(1, 0, 2), page(1), hand(0),
                                             press(1, 0, 2), NOW)
            self.assertEqual(ask(start(MASKS), load(1, [0] * 464, told[1:]), press(1, 0, 2), NOW)[1:], [[2], [0], now])
            (said,) = ask([20, now[1], now[2], held[6], 99, 4, *held[:4]])
            self.assertEqual(ask(START_CHAMBER, tick(said[1:]))[1], [1] + held)


if __name__ == "__main__":
    unittest.main()
