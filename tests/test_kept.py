"""Which states are kept, which one goes, and from where a tick is gone to."""

import unittest

from tests.helper import (begins, cut, hold, kept, last, modelled, press, put_by, replies, seek, spoil, sum_at, summed,
                          swap)


def alone(x, y):
    """The sum of a world of one player without points, the coin where it is at first, of seed 1."""
    return summed([x, y, 0, 8, 2, 1])


def kept_ticks(*calls):
    """The ticks, all that can be divided by 8, that are gone to without a tick played."""
    found = replies(*calls, *[seek(tick) for tick in range(8, 121, 8)])[len(calls):]
    return [8 * (i + 1) for i, answer in enumerate(found) if answer[0] == 0]


class Kept(unittest.TestCase):
    def test_the_8th_tick(self):
        self.assertEqual(replies(hold(7, 1), cut(7), press(1), cut(8))[1::2], [[7, 0], [8, 1]])

    def test_how_many_are_kept(self):
        for ticks in range(1, 121):
            self.assertEqual(replies(hold(ticks, 1), cut(ticks))[1], [ticks, min(ticks // 8, 6)])

    def test_which_one_goes(self):
        wanted = {
            48: [8, 16, 24, 32, 40, 48],
            55: [8, 16, 24, 32, 40, 48],
            56: [16, 24, 32, 40, 48, 56],
            64: [16, 32, 40, 48, 56, 64],
            72: [16, 32, 48, 56, 64, 72],
            80: [16, 32, 48, 64, 72, 80],
            88: [16, 32, 48, 64, 80, 88],
            96: [16, 32, 48, 64, 80, 96],
            104: [16, 32, 48, 64, 80, 104],
            112: [32, 48, 64, 80, 104, 112],
            120: [32, 48, 64, 80, 104, 120],
        }
        for ticks, kept in wanted.items():
            self.assertEqual(kept_ticks(hold(ticks, 1)), kept, ticks)

    def test_which_one_goes_after_a_cut(self):
        self.assertEqual(kept_ticks(hold(112, 1), cut(47)), [32])
        self.assertEqual(kept_ticks(hold(104, 1), cut(47), hold(17, 2)), [16, 32, 48, 56, 64])
        self.assertEqual(kept_ticks(hold(112, 1), cut(47), hold(33, 2)), [32, 48, 56, 64, 72, 80])
        self.assertEqual(kept_ticks(hold(112, 1), cut(47), hold(41, 2)), [32, 48, 64, 72, 80, 88])

    def test_seek_keeps_nothing(self):
        self.assertEqual(kept_ticks(hold(120, 1), seek(8), seek(16), seek(24)), [32, 48, 64, 80, 104, 120])

    def test_how_many_ticks_had_to_be_played(self):
        ticks = [31, 32, 47, 63, 79, 80, 103, 104, 119, 120]
        found = replies(hold(120, 1), *[seek(tick) for tick in ticks])[1:]
        self.assertEqual([answer[0] for answer in found], [31, 0, 15, 15, 15, 0, 23, 0, 15, 0])


class KeptCall(unittest.TestCase):
    def test_none(self):
        self.assertEqual(replies(kept(), hold(7, 1), kept(), press(1), kept(), cut(7), kept()),
                         [[0], [7, 7, 0, 0, 8, 2], [0], [8, 8, 0, 0, 8, 2], [1, 8, alone(8, 0)], [7, 0], [0]])

    def test_six(self):
        wanted = [6, 8, alone(8, 0), 16, alone(0, 0), 24, alone(8, 0), 32, alone(0, 0), 40, alone(8, 0),
                  48, alone(0, 0)]
        for ticks in (48, 55):
            self.assertEqual(last(hold(ticks, 1), kept()), wanted)

    def test_one_goes(self):
        self.assertEqual(last(hold(30, 1), hold(26, 4), kept()),
                         [6, 16, alone(0, 0), 24, alone(8, 0), 32, alone(14, 14), 40, alone(14, 6), 48, alone(14, 14),
                          56, alone(14, 6)])
        self.assertEqual(last(hold(104, 1), hold(16, 2), kept())[1::2], [32, 48, 64, 80, 104, 120])

    def test_sums_with_points_and_luck(self):
        self.assertEqual(last(hold(8, 1), hold(2, 2), hold(6, 0), kept()),
                         [2, 8, alone(8, 0), 16, summed([8, 2, 1, 6, 14, 377401575])])

    def test_which_one_goes_where_states_are_missing(self):
        holes = [hold(72, 1), spoil(33, 0, 1), hold(24, 1), kept()]
        self.assertEqual(last(*holes)[1::2], [16, 32, 80, 88, 96])
        self.assertEqual(last(*holes, hold(16, 1), kept())[1::2], [16, 32, 80, 96, 104, 112])
        self.assertEqual(last(*holes, hold(24, 1), kept())[1::2], [16, 32, 80, 96, 112, 120])

    def test_of_the_one_that_goes_on(self):
        self.assertEqual(replies(hold(9, 1), swap(), kept(), swap(), kept())[2::2], [[0], [1, 8, alone(8, 0)]])
        self.assertEqual(replies(hold(9, 1), put_by(), begins(2, 1), kept(), swap(), kept())[3::2],
                         [[0], [1, 8, alone(8, 0)]])

    def test_kept_changes_nothing(self):
        self.assertEqual(replies(hold(60, 1), kept(), kept(), seek(60), press(1))[2:],
                         replies(hold(60, 1), kept(), seek(60), press(1))[1:])


class SumAt(unittest.TestCase):
    recorded = [hold(12, 1), hold(9, 2)]

    def test_tick_0(self):
        self.assertEqual(last(sum_at(0)), [alone(0, 0)])
        self.assertEqual(last(*self.recorded, sum_at(0)), [alone(0, 0)])

    def test_kept_ticks_and_between(self):
        self.assertEqual(replies(*self.recorded, *[sum_at(tick) for tick in (1, 7, 8, 9, 12, 15, 16, 17)])[2:],
                         [[alone(1, 0)], [alone(7, 0)], [alone(8, 0)], [alone(9, 0)], [alone(12, 0)],
                          [alone(12, 3)], [alone(12, 4)], [alone(12, 5)]])

    def test_last_tick(self):
        self.assertEqual(last(*self.recorded, sum_at(21)), [alone(12, 9)])
        self.assertEqual(last(hold(120, 1), sum_at(120)), [alone(8, 0)])

    def test_no_such_tick(self):
        self.assertEqual(replies(sum_at(1), sum_at(4294967295)), [[-2], [-2]])
        self.assertEqual(replies(*self.recorded, sum_at(22), sum_at(4294967295))[2:], [[-2], [-2]])
        self.assertEqual(last(hold(120, 1), sum_at(121)), [-2])
        self.assertEqual(last(*self.recorded, cut(20), sum_at(21)), [-2])

    def test_as_kept_tells(self):
        line = [begins(3, 77), hold(30, 1, 2, 3), hold(30, 2, 2, 4), hold(33, 4, 0, 1), kept()]
        found = last(*line)
        self.assertEqual(found, modelled(*line)[-1])
        for tick, total in zip(found[1::2], found[2::2]):
            self.assertEqual(last(*line, sum_at(tick)), [total])

    def test_sum_at_changes_nothing(self):
        self.assertEqual(replies(*self.recorded, sum_at(3), kept(), seek(15), press(1))[3:],
                         replies(*self.recorded, kept(), seek(15), press(1))[2:])


if __name__ == "__main__":
    unittest.main()
