"""The small world: the field, a tick, the luck, a world's sum."""

import unittest

from playedagain.small_world import after_tick, first_world, next_luck, world_numbers, world_sum
from tests.helper import begins, hold, last, press, replies, sum_at, summed


class FirstWorld(unittest.TestCase):
    def test_each_player_count(self):
        self.assertEqual(last(begins(1, 1)), [0, 0, 0, 8, 2])
        self.assertEqual(last(begins(2, 1)), [0, 0, 0, 4, 4, 0, 8, 2])
        self.assertEqual(last(begins(3, 1)), [0, 0, 0, 4, 4, 0, 8, 8, 0, 8, 2])
        self.assertEqual(last(begins(4, 1)), [0, 0, 0, 4, 4, 0, 8, 8, 0, 12, 12, 0, 8, 2])

    def test_luck_is_the_seeds_rest(self):
        self.assertEqual(first_world(1, 0).luck, 0)
        self.assertEqual(first_world(1, 2147483647).luck, 2147483647)
        self.assertEqual(first_world(1, 2147483648).luck, 0)
        self.assertEqual(first_world(1, 4294967295).luck, 2147483647)

    def test_a_line_begins_with_one_player_and_seed_1(self):
        self.assertEqual(replies(hold(8, 1), hold(2, 2)), [[8, 8, 0, 0, 8, 2], [10, 8, 2, 1, 6, 14]])


class Steps(unittest.TestCase):
    def test_each_key(self):
        middle = [begins(2, 1), press(0, 1)]
        self.assertEqual(last(*middle, press(0, 0)), [2, 0, 0, 0, 5, 4, 0, 8, 2])
        self.assertEqual(last(*middle, press(0, 1)), [2, 0, 0, 0, 6, 4, 0, 8, 2])
        self.assertEqual(last(*middle, press(0, 2)), [2, 0, 0, 0, 5, 5, 0, 8, 2])
        self.assertEqual(last(*middle, press(0, 3)), [2, 0, 0, 0, 4, 4, 0, 8, 2])
        self.assertEqual(last(*middle, press(0, 4)), [2, 0, 0, 0, 5, 3, 0, 8, 2])

    def test_round_at_each_end(self):
        self.assertEqual(replies(press(3), press(1)), [[1, 15, 0, 0, 8, 2], [2, 0, 0, 0, 8, 2]])
        self.assertEqual(replies(press(4), press(2)), [[1, 0, 15, 0, 8, 2], [2, 0, 0, 0, 8, 2]])

    def test_all_the_way_round(self):
        self.assertEqual(last(hold(15, 1)), [15, 15, 0, 0, 8, 2])
        self.assertEqual(last(hold(16, 1)), [16, 0, 0, 0, 8, 2])
        self.assertEqual(last(hold(16, 4)), [16, 0, 0, 0, 8, 2])


class TakenPlaces(unittest.TestCase):
    beside = [begins(2, 1), hold(4, 1, 0), hold(3, 2, 0)]

    def test_a_player_stays_ahead_of_another(self):
        self.assertEqual(last(*self.beside), [7, 4, 3, 0, 4, 4, 0, 8, 2])
        self.assertEqual(last(*self.beside, press(2, 0)), [8, 4, 3, 0, 4, 4, 0, 8, 2])
        self.assertEqual(last(*self.beside, press(0, 4)), [8, 4, 3, 0, 4, 4, 0, 8, 2])

    def test_the_later_player_has_not_gone_yet(self):
        self.assertEqual(last(*self.beside, press(2, 2)), [8, 4, 3, 0, 4, 5, 0, 8, 2])

    def test_the_earlier_player_has_gone_already(self):
        self.assertEqual(last(*self.beside, press(4, 4)), [8, 4, 2, 0, 4, 3, 0, 8, 2])

    def test_two_to_one_place(self):
        apart = [begins(2, 1), hold(4, 1, 0), hold(2, 2, 0)]
        self.assertEqual(last(*apart, press(2, 4)), [7, 4, 3, 0, 4, 4, 0, 8, 2])

    def test_two_do_not_change_places(self):
        self.assertEqual(last(*self.beside, press(2, 4)), [8, 4, 3, 0, 4, 4, 0, 8, 2])

    def test_taken_across_the_fields_end(self):
        ends = [begins(2, 1), hold(11, 0, 1), hold(4, 0, 4)]
        self.assertEqual(last(*ends), [15, 0, 0, 0, 15, 0, 0, 8, 2])
        self.assertEqual(last(*ends, press(3, 1)), [16, 0, 0, 0, 15, 0, 0, 8, 2])


class Coin(unittest.TestCase):
    def test_next_luck(self):
        self.assertEqual(next_luck(0), 12345)
        self.assertEqual(next_luck(1), 1103527590)
        self.assertEqual(next_luck(1103527590), 377401575)

    def test_onto_the_coin(self):
        world = first_world(1, 1)
        for key in [1] * 8 + [2]:
            world = after_tick(world, [key])
        self.assertEqual(world_numbers(world) + [world.luck], [8, 1, 0, 8, 2, 1])
        world = after_tick(world, [2])
        self.assertEqual(world_numbers(world) + [world.luck], [8, 2, 1, 6, 14, 377401575])

    def test_the_seed_tells_where_the_coin_goes(self):
        self.assertEqual(last(begins(1, 0), hold(8, 1), hold(2, 2)), [10, 8, 2, 1, 0, 12])
        self.assertEqual(last(begins(1, 2147483648), hold(8, 1), hold(2, 2)), [10, 8, 2, 1, 0, 12])
        self.assertEqual(last(begins(1, 2147483649), hold(8, 1), hold(2, 2)), [10, 8, 2, 1, 6, 14])

    def test_a_second_coin(self):
        calls = [hold(8, 1), hold(2, 2), hold(2, 3), hold(4, 4)]
        self.assertEqual(last(*calls)[:4], [16, 6, 14, 2])

    def test_a_later_player_meets_the_coin_where_it_is_then(self):
        world = first_world(2, 1)
        world.players[0].place = (8, 1)
        world.players[1].place = (6, 13)
        world = after_tick(world, [2, 2])
        self.assertEqual(world_numbers(world)[:6], [8, 2, 1, 6, 14, 1])
        self.assertEqual(world.luck, next_luck(next_luck(377401575)))

    def test_a_later_player_finds_the_coin_gone(self):
        world = first_world(2, 1)
        world.players[0].place = (8, 1)
        world.players[1].place = (9, 2)
        self.assertEqual(world_numbers(after_tick(world, [2, 3])), [8, 2, 1, 9, 2, 0, 6, 14])

    def test_standing_on_the_coin_gives_nothing(self):
        world = first_world(2, 1)
        world.coin = (0, 0)
        self.assertEqual(world_numbers(after_tick(world, [0, 0])), [0, 0, 0, 4, 4, 0, 0, 0])

    def test_a_coin_beneath_another_player_is_not_reached(self):
        world = first_world(2, 1)
        world.coin = (4, 4)
        world.players[0].place = (4, 3)
        self.assertEqual(world_numbers(after_tick(world, [2, 0])), [4, 3, 0, 4, 4, 0, 4, 4])


class Sum(unittest.TestCase):
    def test_first_worlds(self):
        self.assertEqual(world_sum(first_world(1, 1)), summed([0, 0, 0, 8, 2, 1]))
        self.assertEqual(world_sum(first_world(2, 9)), summed([0, 0, 0, 4, 4, 0, 8, 2, 9]))

    def test_by_hand(self):
        # 7, 218, 6759, 209530, 6495439, 201358612, then 31 times that and 2: 6242116974.
        self.assertEqual(world_sum(first_world(1, 1)), 6242116974 - 6 * 1000000007)
        self.assertEqual(last(sum_at(0)), [242116932])

    def test_points_and_luck_of_a_later_tick(self):
        calls = [hold(8, 1), hold(2, 2)]
        self.assertEqual(last(*calls, sum_at(10)), [summed([8, 2, 1, 6, 14, 377401575])])
        self.assertEqual(last(*calls, sum_at(9)), [summed([8, 1, 0, 8, 2, 1])])

    def test_each_player_in_order(self):
        self.assertEqual(last(begins(3, 5), press(1, 2, 3), sum_at(1)),
                         [summed([1, 0, 0, 4, 5, 0, 7, 8, 0, 8, 2, 5])])

    def test_the_luck_counts(self):
        self.assertNotEqual(world_sum(first_world(1, 1)), world_sum(first_world(1, 2)))
        self.assertEqual(world_sum(first_world(1, 1)), world_sum(first_world(1, 2147483649)))


class Unchanged(unittest.TestCase):
    def test_a_tick_leaves_the_world_ahead_of_it(self):
        world = first_world(3, 5)
        after_tick(world, [1, 2, 3])
        self.assertEqual(world_numbers(world), [0, 0, 0, 4, 4, 0, 8, 8, 0, 8, 2])


if __name__ == "__main__":
    unittest.main()
