import unittest

from badnet.world import World
from tests.helper import BEGINS, MOST, PRESS, SHOWN, last, presses, told


class Begins(unittest.TestCase):
    def test_the_world_before_any_tick(self):
        self.assertEqual(last((BEGINS, 1, 1, 1)), [0, 0, 0, 4, 1])
        self.assertEqual(last((BEGINS, 2, 2, 20)), [0, 0, 0, 2, 2, 0, 4, 1])
        self.assertEqual(last((BEGINS, 3, 3, 6)), [0, 0, 0, 2, 2, 0, 4, 4, 0, 4, 1])
        self.assertEqual(last((BEGINS, 4, 4, 6)), [0, 0, 0, 2, 2, 0, 4, 4, 0, 6, 6, 0, 4, 1])

    def test_all_anew(self):
        given = told(
            (PRESS, 0, 1), (2, 0), (BEGINS, 3, 1, 2), (SHOWN, 0), (SHOWN, 1), (SHOWN, 2), (3, 0), (2, 0))
        begun = [0, 0, 0, 0, 2, 2, 0, 4, 4, 0, 4, 1]
        self.assertEqual(given[3:], [begun, begun, begun, [-2], [2, 1, 0, 0, 2, 0, 0]])

    def test_how_far_ahead_is_new_too(self):
        given = told((BEGINS, 2, 1, 2), *presses(0, [0, 0, 0]))
        self.assertEqual(given[2:], [[2, 0, 0, 0, 2, 2, 0, 4, 1], [-6]])

    def test_points_and_coin_are_new_too(self):
        line = [(BEGINS, 1, 1, 1)] + presses(0, [1, 1, 1, 1, 2]) + [(BEGINS, 1, 1, 1)]
        self.assertEqual(told(*line)[-2:], [[5, 4, 1, 1, 6, 6], [0, 0, 0, 4, 1]])


class Going(unittest.TestCase):
    def test_each_key(self):
        line = [(BEGINS, 1, 1, 1)] + presses(0, [1, 2, 2, 3, 4, 0])
        self.assertEqual(told(*line)[1:], [
            [1, 1, 0, 0, 4, 1],
            [2, 1, 1, 0, 4, 1],
            [3, 1, 2, 0, 4, 1],
            [4, 0, 2, 0, 4, 1],
            [5, 0, 1, 0, 4, 1],
            [6, 0, 1, 0, 4, 1],
        ])

    def test_round_at_the_ends_in_all_four_directions(self):
        line = [(BEGINS, 1, 1, 1)] + presses(0, [3, 1, 4, 2])
        self.assertEqual(told(*line)[1:], [
            [1, 7, 0, 0, 4, 1],
            [2, 0, 0, 0, 4, 1],
            [3, 0, 7, 0, 4, 1],
            [4, 0, 0, 0, 4, 1],
        ])

    def test_a_whole_round(self):
        line = [(BEGINS, 1, 1, 1)] + presses(0, [1] * 8 + [2] * 8)
        given = told(*line)
        self.assertEqual([answer[1] for answer in given[1:9]], [1, 2, 3, 4, 5, 6, 7, 0])
        self.assertEqual([answer[2] for answer in given[9:]], [1, 2, 3, 4, 5, 6, 7, 0])

    def test_nobody_goes_where_somebody_stands(self):
        given = told(*presses(0, [1, 1, 2, 2, 1, 2, 3]))
        self.assertEqual(given[2:], [
            [3, 2, 1, 0, 2, 2, 0, 4, 1],
            [4, 2, 1, 0, 2, 2, 0, 4, 1],
            [5, 3, 1, 0, 2, 2, 0, 4, 1],
            [6, 3, 2, 0, 2, 2, 0, 4, 1],
            [-6],
        ])

    def test_somebody_stands_round_the_end(self):
        world = World(2, 1)
        world.places = [(0, 3), (7, 3)]
        world.tick([3, 1])
        self.assertEqual(world.places, [(0, 3), (7, 3)])

    def test_players_go_in_order(self):
        world = World(2, 1)
        world.places = [(2, 1), (2, 2)]
        world.tick([4, 4])
        self.assertEqual(world.places, [(2, 0), (2, 1)])
        world.tick([2, 2])
        self.assertEqual(world.places, [(2, 0), (2, 2)])

    def test_two_want_the_same_place(self):
        world = World(2, 1)
        world.places = [(1, 5), (3, 5)]
        world.tick([1, 3])
        self.assertEqual(world.places, [(2, 5), (3, 5)])


class Coin(unittest.TestCase):
    def test_onto_the_coin_once_and_again(self):
        # Rests by 8 of 16838, 5758, 10113, 17515, 31051, 5627: what seed 1 gives.
        way = [1, 1, 1, 1, 2] + [1, 1, 2, 2, 2, 2, 2] + [1, 1, 1, 4, 4, 4]
        given = told((BEGINS, 1, 1, 1), *presses(0, way))
        self.assertEqual(given[4], [4, 4, 0, 0, 4, 1])
        self.assertEqual(given[5], [5, 4, 1, 1, 6, 6])
        self.assertEqual(given[11], [11, 6, 5, 1, 6, 6])
        self.assertEqual(given[12], [12, 6, 6, 2, 1, 3])
        self.assertEqual(given[18], [18, 1, 3, 3, 3, 3])

    def test_another_player_takes_it(self):
        given = told(*presses(1, [1, 1, 4]))
        self.assertEqual(given[2], [3, 0, 0, 0, 4, 1, 1, 6, 6])

    def test_a_coin_that_comes_where_somebody_stands_waits(self):
        world = World(4, 1)
        for key in [1, 1, 1, 1, 2, 0]:
            world.tick([key, 0, 0, 0])
        self.assertEqual((world.coin, world.places[3], world.points), ((6, 6), (6, 6), [1, 0, 0, 0]))
        world.tick([0, 0, 0, 1])
        world.tick([0, 0, 0, 3])
        self.assertEqual((world.coin, world.points), ((1, 3), [1, 0, 0, 1]))

    def test_who_is_kept_off_the_coin_has_no_point(self):
        world = World(2, 1)
        world.places = [(3, 1), (4, 1)]
        world.tick([1, 0])
        self.assertEqual((world.places, world.points, world.coin), ([(3, 1), (4, 1)], [0, 0], (4, 1)))

    def test_the_next_in_the_same_tick_may_take_the_next_coin(self):
        world = World(2, 1)
        world.places = [(3, 1), (6, 5)]
        world.tick([1, 2])
        self.assertEqual((world.places, world.points, world.coin), ([(4, 1), (6, 6)], [1, 1], (1, 3)))

    def test_seeds_at_their_edges(self):
        way = presses(0, [1, 1, 1, 1, 2])
        coins = {seed: last((BEGINS, 1, seed, 1), *way)[3:] for seed in
                 [0, 2147483648, 1, 2147483649, 2147483647, MOST]}
        self.assertEqual(coins, {
            0: [1, 0, 4], 2147483648: [1, 0, 4],
            1: [1, 6, 6], 2147483649: [1, 6, 6],
            2147483647: [1, 1, 1], MOST: [1, 1, 1],
        })

    def test_the_luck_is_a_rest(self):
        lucks = [World(1, seed).luck for seed in [0, 2147483647, 2147483648, 2147483649, MOST]]
        self.assertEqual(lucks, [0, 2147483647, 0, 1, 2147483647])

    def test_the_luck_behind_a_coin(self):
        world = World(1, 1)
        for key in [1, 1, 1, 1]:
            world.tick([key])
        self.assertEqual(world.luck, 1)
        world.tick([2])
        self.assertEqual(world.luck, 377401575)


if __name__ == "__main__":
    unittest.main()
