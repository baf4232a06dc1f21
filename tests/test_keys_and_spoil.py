"""The calls keys and spoil, and their refusals."""

import unittest

from tests.helper import (begins, cut, differ, hold, kept, keys, last, press, put_by, replies, seek, spoil, sum_at,
                          summed, swap)

MOST = 4294967295


def alone(x, y):
    """The sum of a world of one player without points, the coin where it is at first, of seed 1."""
    return summed([x, y, 0, 8, 2, 1])


class Keys(unittest.TestCase):
    recorded = [begins(2, 1), press(1, 2), press(3, 4), hold(2, 0, 1)]

    def test_from_tick_0_on(self):
        self.assertEqual(last(*self.recorded, keys(0, 4)), [4, 1, 2, 3, 4, 0, 1, 0, 1])
        self.assertEqual(last(*self.recorded, keys(0, 1)), [1, 1, 2])

    def test_from_later_on(self):
        self.assertEqual(last(*self.recorded, keys(1, 2)), [2, 3, 4, 0, 1])

    def test_from_the_last_but_one(self):
        self.assertEqual(last(*self.recorded, keys(3, 1)), [1, 0, 1])
        self.assertEqual(last(hold(120, 3), keys(119, 5)), [1, 3])

    def test_0_ticks_asked(self):
        self.assertEqual(replies(*self.recorded, keys(0, 0), keys(3, 0))[4:], [[0], [0]])

    def test_more_asked_than_there_are(self):
        for more in (5, 6, MOST):
            self.assertEqual(last(*self.recorded, keys(0, more)), [4, 1, 2, 3, 4, 0, 1, 0, 1])
            self.assertEqual(last(*self.recorded, keys(2, more)), [2, 0, 1, 0, 1])

    def test_of_each_player_count(self):
        for players in (1, 2, 3, 4):
            row = list(range(1, players + 1))
            self.assertEqual(last(begins(players, 1), hold(120, *row), keys(0, 120)), [120] + row * 120)

    def test_none_behind_it(self):
        self.assertEqual(replies(keys(0, 0), keys(0, 1), keys(1, 1), keys(MOST, MOST)), [[-2]] * 4)
        self.assertEqual(replies(*self.recorded, keys(4, 1), keys(4, 0), keys(5, 1), keys(MOST, 0))[4:], [[-2]] * 4)
        self.assertEqual(last(hold(120, 1), keys(120, 1)), [-2])

    def test_after_a_cut(self):
        self.assertEqual(replies(*self.recorded, cut(2), keys(0, 9), keys(1, 9), keys(2, 9))[5:],
                         [[2, 1, 2, 3, 4], [1, 3, 4], [-2]])

    def test_what_is_pressed_not_where_it_leads(self):
        self.assertEqual(last(begins(2, 1), hold(4, 1, 0), hold(6, 2, 0), keys(6, 9)), [4, 2, 0, 2, 0, 2, 0, 2, 0])

    def test_keys_changes_nothing(self):
        asked = [keys(0, 9), kept(), seek(4), differ(), put_by(), swap(), keys(0, 9)]
        self.assertEqual(replies(*self.recorded, keys(0, 9), keys(4, 9), *asked)[6:],
                         replies(*self.recorded, *asked)[4:])


class Spoil(unittest.TestCase):
    def test_the_first_tick(self):
        self.assertEqual(replies(hold(20, 1), spoil(0, 0, 2), kept(), keys(0, 3), seek(20), seek(1))[1:],
                         [[0, alone(3, 1)], [0], [3, 2, 1, 1], [20, 3, 1, 0, 8, 2], [1, 0, 1, 0, 8, 2]])

    def test_the_last_tick(self):
        self.assertEqual(replies(hold(20, 1), spoil(19, 0, 2), kept(), keys(17, 3), seek(20), seek(19))[1:],
                         [[2, alone(3, 1)], [2, 8, alone(8, 0), 16, alone(0, 0)], [3, 1, 1, 2],
                          [4, 3, 1, 0, 8, 2], [3, 3, 0, 0, 8, 2]])

    def test_the_only_tick(self):
        self.assertEqual(replies(press(1), spoil(0, 0, 3), keys(0, 9), sum_at(1), sum_at(0))[1:],
                         [[0, alone(15, 0)], [1, 3], [alone(15, 0)], [alone(0, 0)]])

    def test_a_tick_that_was_kept(self):
        self.assertEqual(replies(hold(20, 1), spoil(15, 0, 2), kept(), seek(16), seek(20), sum_at(16))[1:],
                         [[1, alone(3, 1)], [1, 8, alone(8, 0)], [8, 15, 1, 0, 8, 2], [12, 3, 1, 0, 8, 2],
                          [alone(15, 1)]])

    def test_a_tick_that_was_kept_and_is_the_last(self):
        self.assertEqual(replies(hold(8, 1), spoil(7, 0, 2), kept(), seek(8), press(0), kept())[1:],
                         [[0, alone(7, 1)], [0], [8, 7, 1, 0, 8, 2], [9, 7, 1, 0, 8, 2], [0]])

    def test_the_tick_behind_a_kept_one(self):
        self.assertEqual(replies(hold(20, 1), spoil(16, 0, 2), kept(), seek(16), seek(17), seek(20))[1:],
                         [[2, alone(3, 1)], [2, 8, alone(8, 0), 16, alone(0, 0)], [0, 0, 0, 0, 8, 2],
                          [1, 0, 1, 0, 8, 2], [4, 3, 1, 0, 8, 2]])

    def test_with_what_was_pressed_before_states_go_too(self):
        self.assertEqual(replies(hold(20, 1), spoil(3, 0, 1), kept(), seek(20))[1:],
                         [[0, alone(4, 0)], [0], [20, 4, 0, 0, 8, 2]])

    def test_each_player_alone(self):
        for player in range(4):
            row = [0, 0, 0, 0]
            row[player] = 1
            found = replies(begins(4, 1), hold(3, 0, 0, 0, 0), spoil(1, player, 1), keys(0, 3))
            self.assertEqual(found[3], [3, 0, 0, 0, 0, *row, 0, 0, 0, 0])
            world = [0, 0, 0, 4, 4, 0, 8, 8, 0, 12, 12, 0, 8, 2, 1]
            world[3 * player] += 1
            self.assertEqual(found[2], [0, summed(world)])

    def test_each_key(self):
        for key, place in enumerate([(0, 0), (1, 0), (0, 1), (15, 0), (0, 15)]):
            self.assertEqual(last(press(1 if key != 1 else 2), spoil(0, 0, key)), [0, alone(*place)])

    def test_one_tick_of_a_hold_alone(self):
        self.assertEqual(last(hold(5, 1), spoil(2, 0, 4), keys(0, 5)), [5, 1, 1, 4, 1, 1])

    def test_how_many_ticks_there_are_stays(self):
        self.assertEqual(replies(hold(20, 1), spoil(4, 0, 0), seek(20), seek(21), put_by())[2:],
                         [[20, 3, 0, 0, 8, 2], [-2], [20]])

    def test_the_coin_is_taken_otherwise(self):
        onto = [hold(8, 1), hold(2, 2)]
        self.assertEqual(replies(*onto, spoil(9, 0, 0), seek(10), spoil(9, 0, 2), seek(10))[2:],
                         [[1, alone(8, 1)], [2, 8, 1, 0, 8, 2], [1, summed([8, 2, 1, 6, 14, 377401575])],
                          [2, 8, 2, 1, 6, 14]])

    def test_going_on_keeps_states_anew(self):
        found = replies(hold(20, 1), spoil(3, 0, 2), hold(4, 1), kept(), seek(8), seek(24), hold(8, 2), kept(),
                        seek(31))
        self.assertEqual(found[2:], [[24, 7, 1, 0, 8, 2], [1, 24, alone(7, 1)], [8, 7, 1, 0, 8, 2], [0, 7, 1, 0, 8, 2],
                                     [32, 7, 9, 0, 8, 2], [2, 24, alone(7, 1), 32, alone(7, 9)],
                                     [7, 7, 8, 0, 8, 2]])

    def test_going_on_from_a_full_one(self):
        found = replies(hold(64, 1), spoil(40, 0, 0), kept(), hold(8, 2), kept(), hold(40, 4), kept())
        self.assertEqual(found[1:], [
            [3, alone(15, 0)],
            [3, 16, alone(0, 0), 32, alone(0, 0), 40, alone(8, 0)],
            [72, 15, 8, 0, 8, 2],
            [4, 16, alone(0, 0), 32, alone(0, 0), 40, alone(8, 0), 72, alone(15, 8)],
            [112, 15, 0, 0, 8, 2],
            [6, 16, alone(0, 0), 40, alone(8, 0), 72, alone(15, 8), 88, alone(15, 8), 104, alone(15, 8),
             112, alone(15, 0)]])

    def test_spoiled_then_cut(self):
        self.assertEqual(replies(hold(20, 1), spoil(9, 0, 2), cut(16), kept(), cut(10), press(1), keys(7, 9))[2:],
                         [[16, 1], [1, 8, alone(8, 0)], [10, 1], [11, 10, 1, 0, 8, 2], [4, 1, 1, 2, 1]])

    def test_spoiled_twice(self):
        self.assertEqual(replies(hold(20, 1), spoil(17, 0, 2), spoil(9, 0, 2), spoil(17, 0, 1), keys(9, 9))[1:],
                         [[2, alone(3, 1)], [1, alone(2, 2)], [1, alone(3, 1)], [9, 2] + [1] * 8])

    def test_no_key(self):
        for wrong in (5, 6, MOST):
            self.assertEqual(last(hold(9, 1), spoil(0, 0, wrong)), [-1])

    def test_no_such_player(self):
        for players in (1, 2, 3, 4):
            ahead = [begins(players, 1), press(*[0] * players)]
            self.assertEqual(len(last(*ahead, spoil(0, players - 1, 1))), 2)
            for wrong in (players, players + 1, MOST):
                self.assertEqual(last(*ahead, spoil(0, wrong, 1)), [-1])

    def test_no_tick_behind_it(self):
        self.assertEqual(replies(spoil(0, 0, 1), spoil(1, 0, 1), spoil(MOST, 0, 1)), [[-2]] * 3)
        self.assertEqual(replies(hold(9, 1), spoil(9, 0, 1), spoil(10, 0, 1), spoil(MOST, 0, 1))[1:], [[-2]] * 3)
        self.assertEqual(last(hold(120, 1), spoil(120, 0, 1)), [-2])

    def test_of_several_refusals_the_first(self):
        for ahead in ([hold(9, 1)], [hold(120, 1)]):
            for tick in (120, 121, MOST):
                self.assertEqual(last(*ahead, spoil(tick, 0, 5)), [-1])
                self.assertEqual(last(*ahead, spoil(tick, 1, 0)), [-1])
                self.assertEqual(last(*ahead, spoil(tick, 1, 5)), [-1])
                self.assertEqual(last(*ahead, spoil(tick, 0, 0)), [-2])
        self.assertEqual(replies(spoil(0, 0, 5), spoil(0, 1, 0)), [[-1], [-1]])


class Refusals(unittest.TestCase):
    def test_after_a_refusal_all_is_as_it_was(self):
        ahead = [begins(2, 3), hold(20, 1, 2), put_by(), spoil(17, 1, 3), hold(9, 4, 4)]
        asked = [kept(), keys(0, 120), seek(29), seek(15), sum_at(27), differ(), press(0, 1), kept(), cut(28), swap(),
                 kept(), keys(0, 120), seek(20), differ()]
        wanted = replies(*ahead, *asked)[len(ahead):]
        wrong = [seek(30), cut(30), sum_at(30), keys(29, 3), keys(29, 0), spoil(29, 0, 1), spoil(0, 2, 1),
                 spoil(0, 0, 5), spoil(MOST, MOST, MOST), begins(5, 1), press(1), hold(0, 1, 1), hold(92, 1, 1)]
        for call in wrong:
            found = replies(*ahead, call, *asked)[len(ahead):]
            self.assertIn(found[0], [[-1], [-2], [-5]])
            self.assertEqual(found[1:], wanted)
        self.assertEqual(replies(*ahead, *wrong, *asked)[len(ahead) + len(wrong):], wanted)


if __name__ == "__main__":
    unittest.main()
