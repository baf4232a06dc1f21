"""The two recordings side by side: swap, putBy and differ."""

import unittest

from tests.helper import (begins, cut, differ, hold, kept, keys, last, modelled, press, put_by, replies, seek, spoil,
                          sum_at, summed, swap)

MOST = 4294967295


def alone(x, y, luck=1):
    """The sum of a world of one player without points, the coin where it is at first."""
    return summed([x, y, 0, 8, 2, luck])


class Swap(unittest.TestCase):
    def test_answers_the_ticks_of_both(self):
        self.assertEqual(replies(swap(), hold(9, 1), swap(), swap(), swap()),
                         [[0, 0], [9, 9, 0, 0, 8, 2], [0, 9], [9, 0], [0, 9]])

    def test_the_two_at_the_beginning_are_of_one_player_and_seed_1(self):
        self.assertEqual(replies(hold(9, 1), swap(), seek(0), seek(1), kept(), sum_at(0), press(1, 1), press(2))[2:],
                         [[0, 0, 0, 0, 8, 2], [-2], [0], [alone(0, 0)], [-1], [1, 0, 1, 0, 8, 2]])

    def test_each_has_its_own_players_and_seed(self):
        found = replies(begins(3, 7), swap(), press(1, 1, 1), press(1), swap(), press(1), press(1, 1, 1), sum_at(0))
        self.assertEqual(found[1:], [[0, 0], [-1], [1, 1, 0, 0, 8, 2], [0, 1], [-1],
                                     [1, 1, 0, 0, 5, 4, 0, 9, 8, 0, 8, 2],
                                     [summed([0, 0, 0, 4, 4, 0, 8, 8, 0, 8, 2, 7])]])

    def test_going_on_leaves_the_other(self):
        found = replies(hold(9, 1), swap(), hold(17, 2), kept(), swap(), kept(), keys(0, MOST), seek(9))
        self.assertEqual(found[2:], [[17, 0, 1, 0, 8, 2], [2, 8, alone(0, 8), 16, alone(0, 0)], [9, 17],
                                     [1, 8, alone(8, 0)], [9] + [1] * 9, [1, 9, 0, 0, 8, 2]])

    def test_a_cut_and_a_spoil_of_the_one_that_went_on_before(self):
        found = replies(hold(20, 1), swap(), hold(20, 4), swap(), cut(17), spoil(8, 0, 2), kept(), seek(17),
                        swap(), kept(), seek(20), keys(0, 20))
        self.assertEqual(found[3:], [
            [20, 20], [17, 2], [1, alone(0, 1)], [1, 8, alone(8, 0)], [9, 0, 1, 0, 8, 2],
            [20, 17], [2, 8, alone(0, 8), 16, alone(0, 0)], [4, 0, 12, 0, 8, 2], [20] + [4] * 20])

    def test_a_new_recording_leaves_the_other(self):
        self.assertEqual(replies(hold(9, 1), swap(), begins(2, 5), swap(), seek(9), swap(), seek(0))[3:],
                         [[9, 0], [1, 9, 0, 0, 8, 2], [0, 9], [0, 0, 0, 0, 4, 4, 0, 8, 2]])


class PutByThenTheOther(unittest.TestCase):
    recorded = [hold(8, 1), hold(12, 2), put_by()]

    def is_as_it_was(self, *changes):
        """After changes to the one that goes on, the one that's put by answers as the one that was put by."""
        asked = [kept(), keys(0, 120), seek(20), seek(15), sum_at(20), sum_at(9)]
        self.assertEqual(replies(*self.recorded, *changes, swap(), *asked)[-6:], replies(*self.recorded, *asked)[-6:])

    def test_the_other_goes_on(self):
        self.is_as_it_was(press(3), hold(90, 4))
        self.assertEqual(replies(*self.recorded, hold(9, 1), differ(), swap(), differ())[-3:], [[-6], [20, 29], [-6]])

    def test_the_other_is_cut(self):
        self.is_as_it_was(cut(3))
        self.is_as_it_was(cut(0), hold(30, 4))
        self.assertEqual(last(*self.recorded, cut(3), differ()), [-6])
        self.assertEqual(last(*self.recorded, cut(3), press(3), differ()), [4, 2, 0, 0, 8, 2, 4, 0, 0, 8, 2])

    def test_the_other_is_spoiled(self):
        self.is_as_it_was(spoil(0, 0, 4), spoil(8, 0, 0), spoil(19, 0, 1))
        self.assertEqual(last(*self.recorded, spoil(8, 0, 1), differ()), [9, 9, 0, 0, 8, 2, 8, 1, 0, 8, 2])
        self.assertEqual(last(*self.recorded, spoil(8, 0, 1), swap(), differ()), [9, 8, 1, 0, 8, 2, 9, 0, 0, 8, 2])

    def test_another_begins(self):
        self.is_as_it_was(begins(4, 9), hold(10, 1, 2, 3, 4))

    def test_the_one_put_by_is_changed_after_a_swap(self):
        found = replies(*self.recorded, swap(), spoil(8, 0, 1), cut(19), hold(5, 4), swap(), kept(),
                        keys(0, 120), seek(20))
        wanted = replies(*self.recorded, kept(), keys(0, 120), seek(20))
        self.assertEqual(found[-3:], wanted[-3:])

    def test_put_by_twice(self):
        self.assertEqual(replies(hold(9, 1), put_by(), press(2), put_by(), differ(), swap(), keys(8, 9))[3:],
                         [[10], [-6], [10, 10], [2, 1, 2]])


class Differ(unittest.TestCase):
    def test_alike_at_the_beginning_of_a_line(self):
        self.assertEqual(last(differ()), [-6])

    def test_alike_as_far_as_both_go(self):
        self.assertEqual(replies(hold(9, 1), differ(), swap(), differ()), [[9, 9, 0, 0, 8, 2], [-6], [0, 9], [-6]])
        self.assertEqual(last(hold(9, 1), swap(), hold(20, 1), differ()), [-6])
        self.assertEqual(last(begins(2, 5), hold(9, 1, 2), put_by(), differ()), [-6])
        self.assertEqual(last(hold(120, 1), put_by(), differ()), [-6])

    def test_by_the_seed_alone(self):
        self.assertEqual(last(begins(1, 2), differ()), [0, 0, 0, 0, 8, 2, 0, 0, 0, 8, 2])
        self.assertEqual(last(begins(1, 2), hold(30, 1), put_by(), begins(1, 3), hold(30, 1), differ()),
                         [0, 0, 0, 0, 8, 2, 0, 0, 0, 8, 2])

    def test_by_the_luck_alone_though_the_sums_are_the_same(self):
        seeds = (1, 1000000008)
        sums = [last(begins(1, seed), sum_at(0)) for seed in seeds]
        self.assertEqual(sums[0], sums[1])
        self.assertEqual(last(begins(1, seeds[0]), put_by(), begins(1, seeds[1]), differ()),
                         [0, 0, 0, 0, 8, 2, 0, 0, 0, 8, 2])

    def test_seeds_with_the_same_rest_are_alike(self):
        self.assertEqual(last(begins(1, 2147483649), hold(8, 1), hold(9, 2), swap(), hold(8, 1), hold(9, 2), differ()),
                         [-6])

    def test_by_how_many_play(self):
        self.assertEqual(last(begins(2, 1), differ()), [0, 0, 0, 0, 4, 4, 0, 8, 2, 0, 0, 0, 8, 2])
        self.assertEqual(last(begins(2, 1), swap(), differ()), [0, 0, 0, 0, 8, 2, 0, 0, 0, 4, 4, 0, 8, 2])
        self.assertEqual(last(begins(4, 1), hold(20, 1, 1, 1, 1), put_by(), begins(3, 1), differ()),
                         [0, 0, 0, 0, 4, 4, 0, 8, 8, 0, 8, 2, 0, 0, 0, 4, 4, 0, 8, 8, 0, 12, 12, 0, 8, 2])

    def test_at_the_last_tick_that_both_have(self):
        self.assertEqual(last(hold(9, 1), put_by(), spoil(8, 0, 2), differ()), [9, 8, 1, 0, 8, 2, 9, 0, 0, 8, 2])
        shorter = [hold(9, 1), put_by(), cut(8), press(2)]
        self.assertEqual(last(*shorter, hold(30, 1), differ()), [9, 8, 1, 0, 8, 2, 9, 0, 0, 8, 2])
        self.assertEqual(last(*shorter, hold(30, 1), swap(), differ()), [9, 9, 0, 0, 8, 2, 8, 1, 0, 8, 2])
        self.assertEqual(last(hold(120, 1), put_by(), spoil(119, 0, 0), differ()),
                         [120, 7, 0, 0, 8, 2, 8, 0, 0, 8, 2])

    def test_one_tick_behind_what_both_have(self):
        self.assertEqual(last(hold(9, 1), put_by(), cut(8), differ()), [-6])

    def test_at_the_first_tick(self):
        self.assertEqual(last(press(1), put_by(), spoil(0, 0, 4), differ()), [1, 0, 15, 0, 8, 2, 1, 0, 0, 8, 2])

    def test_the_first_tick_though_they_meet_again(self):
        ways = [hold(2, 0), press(1), press(2), hold(20, 0), put_by(), cut(2), press(2), press(1), hold(20, 0)]
        self.assertEqual(last(*ways, differ()), [3, 0, 1, 0, 8, 2, 1, 0, 0, 8, 2])
        self.assertEqual(last(*ways, cut(20), hold(9, 1), differ()), [3, 0, 1, 0, 8, 2, 1, 0, 0, 8, 2])

    def test_pressed_otherwise_without_another_world(self):
        beside = [begins(2, 1), hold(4, 1, 0), hold(3, 2, 0)]
        self.assertEqual(last(*beside, press(2, 0), put_by(), spoil(7, 0, 0), differ()), [-6])
        self.assertEqual(last(*beside, hold(2, 2, 0), put_by(), spoil(7, 0, 0), spoil(8, 0, 4), differ()),
                         [9, 4, 2, 0, 4, 4, 0, 8, 2, 4, 3, 0, 4, 4, 0, 8, 2])

    def test_by_a_players_points_and_the_coin(self):
        onto = [hold(8, 1), hold(2, 2)]
        self.assertEqual(last(*onto, put_by(), spoil(9, 0, 0), differ()), [10, 8, 1, 0, 8, 2, 8, 2, 1, 6, 14])

    def test_behind_ticks_whose_state_is_gone(self):
        line = [hold(120, 1), put_by(), spoil(20, 0, 0), differ(), swap(), differ()]
        self.assertEqual(replies(*line)[3:], [[21, 4, 0, 0, 8, 2, 5, 0, 0, 8, 2], [120, 120],
                                              [21, 5, 0, 0, 8, 2, 4, 0, 0, 8, 2]])

    def test_differ_changes_nothing(self):
        for ahead in ([hold(20, 1), put_by(), spoil(17, 0, 2)], [hold(20, 1)]):
            asked = [kept(), keys(0, 30), seek(20), sum_at(3), swap(), kept(), seek(0)]
            self.assertEqual(replies(*ahead, differ(), differ(), *asked)[len(ahead) + 2:],
                             replies(*ahead, *asked)[len(ahead):])
            self.assertEqual(replies(*ahead, differ(), *asked), modelled(*ahead, differ(), *asked))


if __name__ == "__main__":
    unittest.main()
