"""Which states are kept, which one goes, and from where a tick is gone to."""

import random
import unittest

from tests.helper import Model, begins, cut, hold, press, put_by, replies, seek


def kept_ticks(*calls):
    """The ticks, all that can be divided by 8, that are gone to without a tick played."""
    found = replies(*calls, *[seek(tick) for tick in range(8, 121, 8)])[len(calls):]
    return [8 * (i + 1) for i, answer in enumerate(found) if answer[0] == 0]


class Kept(unittest.TestCase):
    def test_the_8th_tick(self):
        self.assertEqual(replies(hold(7, 1), cut(7), press(1), cut(8))[1::2], [[7, 0], [8, 1]])

    def test_how_many_are_kept(self):
        for ticks in range(1, 121):
            self.assertEqual(replies(hold(ticks, 1), cut(ticks))[1], [ticks, min(ticks // 8, 6)])

    def test_which_one_goes(self):
        wanted = {
            48: [8, 16, 24, 32, 40, 48],
            55: [8, 16, 24, 32, 40, 48],
            56: [16, 24, 32, 40, 48, 56],
            64: [16, 32, 40, 48, 56, 64],
            72: [16, 32, 48, 56, 64, 72],
            80: [16, 32, 48, 64, 72, 80],
            88: [16, 32, 48, 64, 80, 88],
            96: [16, 32, 48, 64, 80, 96],
            104: [16, 32, 48, 64, 80, 104],
            112: [32, 48, 64, 80, 104, 112],
            120: [32, 48, 64, 80, 104, 120],
        }
        for ticks, kept in wanted.items():
            self.assertEqual(kept_ticks(hold(ticks, 1)), kept, ticks)

    def test_which_one_goes_after_a_cut(self):
        self.assertEqual(kept_ticks(hold(112, 1), cut(47)), [32])
        self.assertEqual(kept_ticks(hold(104, 1), cut(47), hold(17, 2)), [16, 32, 48, 56, 64])
        self.assertEqual(kept_ticks(hold(112, 1), cut(47), hold(33, 2)), [32, 48, 56, 64, 72, 80])
        self.assertEqual(kept_ticks(hold(112, 1), cut(47), hold(41, 2)), [32, 48, 64, 72, 80, 88])

    def test_seek_keeps_nothing(self):
        self.assertEqual(kept_ticks(hold(120, 1), seek(8), seek(16), seek(24)), [32, 48, 64, 80, 104, 120])

    def test_how_many_ticks_had_to_be_played(self):
        ticks = [31, 32, 47, 63, 79, 80, 103, 104, 119, 120]
        found = replies(hold(120, 1), *[seek(tick) for tick in ticks])[1:]
        self.assertEqual([answer[0] for answer in found], [31, 0, 15, 15, 15, 0, 23, 0, 15, 0])


class AsPlayedFromTheBeginning(unittest.TestCase):
    def some_call(self, source, model):
        ticks = len(model.keys)
        choice = source.randrange(20)
        keys = [source.randrange(5) for i in range(model.players)]
        if choice == 0:
            return begins(source.randrange(6), source.randrange(2**32))
        if choice < 5:
            return press(*keys)
        if choice < 13:
            return hold(source.choice([0, 1, 2, 3, 5, 8, 13, 21]), *keys)
        if choice == 13:
            return press(*[source.randrange(6) for i in range(source.randrange(6))])
        if choice < 18:
            return seek(source.randrange(ticks + 2))
        if choice == 18:
            return cut(source.randrange(ticks // 2, ticks + 2))
        return put_by()

    def test_many_lines(self):
        source = random.Random(20)
        for number in range(400):
            model = Model()
            calls = [begins(source.randrange(1, 5), source.randrange(2**32))]
            wanted = [model.answer(calls[0])]
            while len(calls) < 40:
                calls.append(self.some_call(source, model))
                wanted.append(model.answer(calls[-1]))
            self.assertEqual(replies(*calls), wanted, calls)

    def test_every_tick_of_a_long_recording(self):
        source = random.Random(8)
        for players in (1, 2, 3, 4):
            model = Model()
            calls = [begins(players, source.randrange(2**32))]
            calls += [hold(4, *[source.randrange(5) for i in range(players)]) for part in range(30)]
            for call in calls:
                model.answer(call)
            for first in range(0, 121, 9):
                seeks = [seek(tick) for tick in range(first, min(first + 9, 121))]
                self.assertEqual(replies(*calls, *seeks)[len(calls):], [model.answer(call) for call in seeks])


if __name__ == "__main__":
    unittest.main()
