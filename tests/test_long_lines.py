"""Long lines of calls of all twelve sorts, held against playing every tick from the beginning."""

import random
import unittest

from playedagain.recordings import answers
from tests.helper import (Model, begins, cut, differ, hold, kept, keys, modelled, press, put_by, replies, seek, spoil,
                          sum_at, swap)

MOST = 4294967295
REFUSALS = [[-1], [-1, -5], [-1, -5], [-2], [-2], [], [], [-6], [], [-2], [-2], [-1, -2]]
WEIGHTS = [1, 6, 8, 5, 3, 2, 3, 5, 3, 3, 3, 5]


def some_tick(source, take):
    """Mostly a tick that there is, and now and then one that there isn't."""
    return source.choice([0, MOST, len(take.rows) + 1] + [source.randrange(len(take.rows) + 1) for i in range(12)])


def some_row(source, take):
    """Mostly a row that can be pressed."""
    if source.randrange(12) == 0:
        return [source.randrange(6) for i in range(source.randrange(13))]
    return [source.randrange(5) for i in range(take.players)]


def some_call(source, take):
    sort = source.choices(range(12), WEIGHTS)[0]
    if sort == 0:
        return begins(source.choice([0, 1, 2, 3, 4, 5, MOST]), source.choice([0, 1, 2, MOST]))
    if sort == 1:
        return press(*some_row(source, take))
    if sort == 2:
        left = 120 - len(take.rows)
        return hold(source.choice([0, 1, 2, 3, 5, 8, 13, 21, 40, left, left + 1]), *some_row(source, take))
    if sort == 4:
        # Mostly a late one, so that the recordings grow long enough for states to go.
        return cut(source.choice([some_tick(source, take)] + [len(take.rows) - len(take.rows) // 8] * 3))
    if sort in (3, 9):
        return [sort, some_tick(source, take)]
    if sort == 10:
        return keys(some_tick(source, take), source.choice([0, 1, 2, 7, 120, MOST]))
    if sort == 11:
        player = source.choice([0, 0, take.players - 1, take.players])
        return spoil(some_tick(source, take), player, source.randrange(6))
    return [sort]


def a_line(source):
    """Forty calls, and what the model answers to them."""
    model = Model()
    calls = [begins(source.randrange(1, 5), source.randrange(MOST + 1))]
    wanted = [model.answer(calls[0])]
    while len(calls) < 40:
        calls.append(some_call(source, model.going))
        wanted.append(model.answer(calls[-1]))
    return calls, wanted


class LongLines(unittest.TestCase):
    def test_many_lines(self):
        source = random.Random(20)
        answered = {}
        for number in range(500):
            calls, wanted = a_line(source)
            self.assertEqual(replies(*calls), wanted, calls)
            for call, answer in zip(calls, wanted):
                answered.setdefault(call[0], set()).add(min(answer[0], 0))
        for sort, refusals in enumerate(REFUSALS):
            self.assertEqual(answered[sort], {0, *refusals}, "the lines don't ask all that can be asked")

    def test_the_list_handed_in_is_as_it_was(self):
        source = random.Random(5)
        for number in range(50):
            calls = [number for call in a_line(source)[0] for number in call]
            copy = list(calls)
            first = answers(calls)
            self.assertEqual(calls, copy)
            self.assertEqual(answers(calls), first)


class EveryTick(unittest.TestCase):
    def long_recording(self, source, players):
        return [begins(players, source.randrange(MOST + 1))] + \
            [hold(5, *[source.randrange(5) for i in range(players)]) for part in range(24)]

    def compare(self, calls, asked):
        """Ask a few of these at a time behind the calls, so that no line is too long."""
        for first in range(0, len(asked), 9):
            line = calls + asked[first:first + 9]
            self.assertLessEqual(len(line), 40)
            self.assertEqual(replies(*line), modelled(*line))

    def test_seek_and_sum_at(self):
        source = random.Random(8)
        for players in (1, 2, 3, 4):
            calls = self.long_recording(source, players)
            self.compare(calls, [seek(tick) for tick in range(121)])
            self.compare(calls, [sum_at(tick) for tick in range(121)])

    def test_after_a_spoil(self):
        source = random.Random(9)
        for players in (1, 2, 3, 4):
            calls = self.long_recording(source, players) + [spoil(50, players - 1, source.randrange(5)), kept()]
            self.compare(calls, [seek(tick) for tick in range(121)])
            self.compare(calls, [sum_at(tick) for tick in range(121)])

    def test_a_spoil_of_each_tick(self):
        source = random.Random(10)
        calls = self.long_recording(source, 2)
        for tick in range(120):
            line = calls + [put_by(), spoil(tick, source.randrange(2), source.randrange(5)), kept(), differ(),
                            cut(100), hold(20, 1, 2), kept(), sum_at(120), swap(), kept(), differ()]
            self.assertEqual(replies(*line), modelled(*line))


if __name__ == "__main__":
    unittest.main()
