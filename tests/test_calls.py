"""The calls begins, press, hold, seek, cut, putBy, and their refusals; of putBy what shows without a swap."""

import unittest

from playedagain.two_recordings import Line
from tests.helper import begins, cut, hold, last, press, put_by, replies, seek

MOST = 4294967295


class Begins(unittest.TestCase):
    def test_refused_players(self):
        for players in (0, 5, 6, MOST):
            self.assertEqual(last(begins(players, 1)), [-1])

    def test_after_a_refusal_all_is_as_it_was(self):
        for players in (0, 5):
            self.assertEqual(
                replies(begins(2, 3), hold(9, 1, 2), begins(players, 7), press(0, 0), seek(9), cut(9))[3:],
                [[10, 9, 0, 0, 4, 13, 0, 8, 2], [1, 9, 0, 0, 4, 13, 0, 8, 2], [9, 1]],
            )

    def test_a_new_recording_has_no_ticks_and_nothing_kept(self):
        found = replies(hold(20, 1), begins(2, 1), seek(0), seek(1), cut(0), press(1, 1))
        self.assertEqual(found[2:5], [[0, 0, 0, 0, 4, 4, 0, 8, 2], [-2], [0, 0]])
        self.assertEqual(found[5], [1, 1, 0, 0, 5, 4, 0, 8, 2])

    def test_the_one_put_by_stays(self):
        line = Line()
        line.hold(9, [1])
        line.put_by()
        line.begins(3, 4)
        self.assertEqual((line.aside.how_many, line.aside.seed, line.aside.ticks()), (1, 1, 9))
        self.assertEqual((line.going.how_many, line.going.seed, line.going.ticks()), (3, 4, 0))


class PressAndHold(unittest.TestCase):
    def test_press_counts_ticks(self):
        self.assertEqual(replies(press(1), press(0), press(2)),
                         [[1, 1, 0, 0, 8, 2], [2, 1, 0, 0, 8, 2], [3, 1, 1, 0, 8, 2]])

    def test_hold_is_press_so_often(self):
        for ticks in (1, 7, 8, 9, 20):
            pressed = replies(begins(4, 6), *[press(1, 2, 3, 4)] * ticks, seek(ticks), cut(ticks))
            held = replies(begins(4, 6), hold(ticks, 1, 2, 3, 4), seek(ticks), cut(ticks))
            self.assertEqual(held[1:], pressed[-3:])

    def test_how_many_are_pressed(self):
        for players in (1, 2, 3, 4):
            for count in range(13):
                keys = [0] * count
                for call in (press(*keys), hold(2, *keys)):
                    answer = last(begins(players, 1), call)
                    if count == players:
                        self.assertEqual(answer[0], call[0])
                    else:
                        self.assertEqual(answer, [-1])

    def test_no_key(self):
        for wrong in (5, 6, MOST):
            self.assertEqual(last(press(wrong)), [-1])
            self.assertEqual(last(hold(3, wrong)), [-1])
            for at in range(4):
                keys = [4, 4, 4, 4]
                self.assertEqual(last(begins(4, 1), press(*keys))[0], 1)
                keys[at] = wrong
                self.assertEqual(last(begins(4, 1), press(*keys)), [-1])
                self.assertEqual(last(begins(4, 1), hold(1, *keys)), [-1])

    def test_0_ticks_of_hold(self):
        self.assertEqual(last(hold(0, 1)), [-1])
        self.assertEqual(last(hold(120, 1), hold(0, 1)), [-1])

    def test_the_last_tick_that_may_be(self):
        self.assertEqual(replies(hold(119, 0), press(0), press(0)),
                         [[119, 0, 0, 0, 8, 2], [120, 0, 0, 0, 8, 2], [-5]])
        self.assertEqual(replies(hold(120, 0), hold(1, 0)), [[120, 0, 0, 0, 8, 2], [-5]])
        self.assertEqual(replies(hold(121, 0), hold(MOST, 0)), [[-5], [-5]])
        self.assertEqual(replies(press(0), hold(120, 0), hold(119, 0))[1:], [[-5], [120, 0, 0, 0, 8, 2]])

    def test_of_several_refusals_the_first(self):
        full = hold(120, 0)
        for call in (press(), press(5), press(0, 0), hold(1), hold(1, 5), hold(0, 0), hold(0, 5), hold(MOST, 5)):
            self.assertEqual(last(full, call), [-1])
        for call in (hold(121, 5), hold(121), hold(MOST, 0, 0), hold(0)):
            self.assertEqual(last(call), [-1])

    def test_after_a_refusal_all_is_as_it_was(self):
        ahead = [begins(2, 1), hold(9, 1, 2)]
        behind = [seek(9), cut(9), press(2, 1), seek(10)]
        wanted = replies(*ahead, *behind)[2:]
        for wrong in (press(1), press(1, 2, 3), press(), press(1, 5), hold(0, 1, 1), hold(8, 5, 0), hold(112, 1, 1)):
            self.assertEqual(replies(*ahead, wrong, *behind)[3:], wanted)

    def test_the_ticks_that_may_be_are_counted_after_a_cut(self):
        self.assertEqual(replies(hold(120, 0), cut(100), hold(21, 0), hold(20, 0))[2:],
                         [[-5], [120, 0, 0, 0, 8, 2]])


class Seek(unittest.TestCase):
    def test_first_and_last_tick(self):
        self.assertEqual(replies(seek(0), seek(1)), [[0, 0, 0, 0, 8, 2], [-2]])
        self.assertEqual(replies(hold(5, 2), seek(0), seek(5), seek(6), seek(MOST))[1:],
                         [[0, 0, 0, 0, 8, 2], [5, 0, 5, 0, 8, 2], [-2], [-2]])

    def test_played_from_the_latest_kept_state(self):
        found = replies(hold(17, 4), seek(7), seek(8), seek(9), seek(15), seek(16), seek(17))[1:]
        self.assertEqual([answer[0] for answer in found], [7, 0, 1, 7, 0, 1])
        self.assertEqual([answer[2] for answer in found], [9, 8, 7, 1, 0, 15])

    def test_seek_changes_nothing(self):
        found = replies(hold(10, 1), seek(3), seek(3), press(2), seek(11), cut(11))
        self.assertEqual(found[1:], [[3, 3, 0, 0, 8, 2], [3, 3, 0, 0, 8, 2], [11, 10, 1, 0, 8, 2],
                                     [3, 10, 1, 0, 8, 2], [11, 1]])

    def test_the_luck_is_kept_too(self):
        calls = [hold(8, 1), hold(2, 2), hold(2, 3), hold(4, 4)]
        from_kept = replies(*calls, hold(8, 1), hold(8, 2), seek(17), seek(31))
        self.assertEqual(from_kept[-2][0], 1)
        self.assertEqual(from_kept[-2][1:], last(*calls, press(1))[1:])
        self.assertEqual(from_kept[-1][1:], last(*calls, hold(8, 1), hold(7, 2))[1:])


class Cut(unittest.TestCase):
    def test_first_and_last_tick(self):
        self.assertEqual(replies(cut(0), cut(1)), [[0, 0], [-2]])
        self.assertEqual(replies(hold(17, 1), cut(18), cut(MOST), cut(17), cut(0), cut(1))[1:],
                         [[-2], [-2], [17, 2], [0, 0], [-2]])

    def test_kept_states_go_too(self):
        self.assertEqual(replies(hold(25, 1), cut(24), cut(23), cut(16), cut(15), cut(8), cut(7))[1:],
                         [[24, 3], [23, 2], [16, 2], [15, 1], [8, 1], [7, 0]])

    def test_what_is_behind_is_forgotten(self):
        self.assertEqual(replies(hold(20, 1), cut(10), seek(10), seek(11))[2:], [[2, 10, 0, 0, 8, 2], [-2]])

    def test_going_on_otherwise(self):
        found = replies(hold(20, 1), cut(10), hold(10, 2), seek(10), seek(16), seek(20))
        self.assertEqual(found[1:], [[10, 1], [20, 10, 10, 0, 8, 2], [2, 10, 0, 0, 8, 2],
                                     [0, 10, 6, 0, 8, 2], [4, 10, 10, 0, 8, 2]])

    def test_a_state_is_kept_anew(self):
        self.assertEqual(replies(hold(8, 1), cut(7), press(2), seek(8), cut(8))[2:],
                         [[8, 7, 1, 0, 8, 2], [0, 7, 1, 0, 8, 2], [8, 1]])

    def test_cut_at_a_kept_tick(self):
        self.assertEqual(replies(hold(16, 1), cut(8), seek(8), press(2), seek(9))[1:],
                         [[8, 1], [0, 8, 0, 0, 8, 2], [9, 8, 1, 0, 8, 2], [1, 8, 1, 0, 8, 2]])

    def test_the_coin_comes_back(self):
        found = replies(hold(8, 1), hold(2, 2), cut(9), press(0), press(2))
        self.assertEqual(found[1:], [[10, 8, 2, 1, 6, 14], [9, 1], [10, 8, 1, 0, 8, 2], [11, 8, 2, 1, 6, 14]])

    def test_after_a_refusal_all_is_as_it_was(self):
        self.assertEqual(replies(hold(20, 1), cut(21), seek(21), seek(20), cut(20), press(0))[1:],
                         [[-2], [-2], [4, 4, 0, 0, 8, 2], [20, 2], [21, 4, 0, 0, 8, 2]])


class PutBy(unittest.TestCase):
    def test_answers_its_ticks(self):
        self.assertEqual(replies(put_by(), hold(9, 1), put_by(), cut(4), put_by()),
                         [[0], [9, 9, 0, 0, 8, 2], [9], [4, 0], [4]])

    def test_the_one_that_goes_on_is_the_same(self):
        self.assertEqual(replies(hold(9, 1), put_by(), seek(9), press(2), cut(10))[2:],
                         [[1, 9, 0, 0, 8, 2], [10, 9, 1, 0, 8, 2], [10, 1]])

    def shown(self, recording):
        return (recording.how_many, recording.seed, [list(row) for row in recording.presses],
                [(state.tick, state.world.players[0].place) for state in recording.states])

    def test_put_by_as_it_is(self):
        line = Line()
        line.begins(2, 7)
        line.hold(9, [1, 2])
        line.put_by()
        self.assertEqual(self.shown(line.aside), (2, 7, [[1, 2]] * 9, [(8, (8, 0))]))

    def test_the_one_put_by_does_not_go_on(self):
        line = Line()
        line.hold(9, [1])
        line.put_by()
        line.hold(50, [2])
        self.assertEqual(self.shown(line.aside), (1, 1, [[1]] * 9, [(8, (8, 0))]))
        line.cut(3)
        line.hold(6, [4])
        self.assertEqual(self.shown(line.aside), (1, 1, [[1]] * 9, [(8, (8, 0))]))
        self.assertEqual(self.shown(line.going), (1, 1, [[1]] * 3 + [[4]] * 6, [(8, (3, 11))]))

    def test_put_by_anew(self):
        line = Line()
        line.hold(9, [1])
        line.put_by()
        line.begins(2, 3)
        line.put_by()
        self.assertEqual(self.shown(line.aside), (2, 3, [], []))

    def test_the_two_at_the_beginning(self):
        line = Line()
        line.hold(9, [1])
        self.assertEqual(self.shown(line.aside), (1, 1, [], []))


if __name__ == "__main__":
    unittest.main()
