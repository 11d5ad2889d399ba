"""A world's sum, and what agree answers.

Two sums are worked out by hand, step by step, in WorldSum; the others come from a desk calculator (bc), which was
given the numbers of the world that stands beside them.
"""

import unittest

from badnet.world import World
from tests.helper import AGREE, ARRIVE, BEGINS, MOST, PRESS, SEND, SHOWN, SURE, last, presses, told

BEGUN_SUMS = {1: 242113057, 2: 733670900, 3: 792374549, 4: 691875009}
TO_THE_COIN = [1, 1, 1, 1, 2]


class WorldSum(unittest.TestCase):
    def test_before_any_tick(self):
        # 7; 218, 6759, 209530 (0, 0, 0); 6495435, 201358487 (4, 1); 31 * 201358487 + 2 = 6242113099 (luck 1).
        self.assertEqual(World(1, 1).world_sum(), 242113057)

    def test_with_a_point_and_a_luck_that_has_changed(self):
        # 7; 222, 6884, 213406 (4, 1, 1); 6615593, 205083390 (6, 6);
        # 31 * 205083390 + 377401575 + 1 = 6734986666, its rest by 1000000007.
        world = World(1, 1)
        for key in TO_THE_COIN:
            world.tick([key])
        self.assertEqual(world.numbers() + [world.luck], [4, 1, 1, 6, 6, 377401575])
        self.assertEqual(world.world_sum(), 734986624)

    def test_asked_twice_it_is_the_same(self):
        world = World(2, 1)
        self.assertEqual([world.world_sum(), world.world_sum()], [733670900, 733670900])


class Agree(unittest.TestCase):
    def test_nothing_pressed(self):
        self.assertEqual(last((AGREE,)), [0, 733670900, 733670900])
        for players, world_sum in BEGUN_SUMS.items():
            self.assertEqual(last((BEGINS, players, 1, 6), (AGREE,)), [0] + [world_sum] * players)

    def test_the_luck_is_the_seeds_rest(self):
        sums = [last((BEGINS, 1, seed, 1), (AGREE,))[1] for seed in [0, 2147483648, 1, 2147483649, 2147483647, MOST]]
        self.assertEqual(sums, [242113056, 242113056, 242113057, 242113057, 389596689, 389596689])

    def test_one_player(self):
        self.assertEqual(last((BEGINS, 1, 1, 1), *presses(0, TO_THE_COIN), (AGREE,)), [5, 734986624])

    def test_two_players_with_a_point(self):
        # The world 4, 1, 1, 2, 2, 0, 6, 6 with the luck 377401575.
        line = presses(0, TO_THE_COIN) + presses(1, [0] * 5) + [(SEND, 0), (SEND, 1), (ARRIVE, 0), (ARRIVE, 0)]
        self.assertEqual(last(*line, (AGREE,)), [5, 75318020, 75318020])

    def test_what_is_sure_on_one_machine_alone(self):
        line = presses(0, [1]) + presses(1, [2]) + [(SEND, 0), (SEND, 1), (ARRIVE, 0)]
        given = told(*line, (AGREE,), (ARRIVE, 0), (AGREE,))
        # The world 1, 0, 0, 2, 3, 0, 4, 1 with the luck 1.
        self.assertEqual(given[-3:], [[0, 733670900, 733670900], [0, 1, 1], [1, 625625891, 625625891]])

    def test_the_least_that_is_sure_somewhere(self):
        # Sure are 3 ticks on machine 0, and 1 on machine 1.
        line = presses(0, [1]) + [(SEND, 0)] + presses(0, [1, 1]) + presses(1, [2, 2, 2]) + [(SEND, 1)]
        given = told(*line, (ARRIVE, 1), (ARRIVE, 0), (SURE, 0), (SURE, 1), (AGREE,))
        self.assertEqual([answer[0] for answer in given[-3:]], [3, 1, 1])
        self.assertEqual(given[-1], [1, 625625891, 625625891])

    def test_guesses_are_not_in_it(self):
        line = presses(0, [1]) + presses(1, [2]) + [(SEND, 0), (SEND, 1), (ARRIVE, 0), (ARRIVE, 0)]
        line += presses(0, [2, 2]) + presses(1, [1, 4, 3])
        given = told(*line, (SHOWN, 0), (SHOWN, 1), (AGREE,))
        self.assertEqual(given[-3:-1], [[3, 1, 2, 0, 2, 5, 0, 4, 1], [4, 4, 0, 0, 2, 2, 0, 4, 1]])
        self.assertEqual(given[-1], [1, 625625891, 625625891])

    def test_three_players_with_a_point(self):
        # The world 4, 1, 1, 2, 2, 0, 4, 7, 0, 6, 6 with the luck 377401575: player 2 went down three times.
        line = [(BEGINS, 3, 1, 6)] + presses(0, TO_THE_COIN) + presses(1, [0] * 5) + presses(2, [2, 2, 2, 0, 0])
        line += [(SEND, 0), (SEND, 1), (SEND, 2)] + [(ARRIVE, 0)] * 6
        self.assertEqual(last(*line, (AGREE,)), [5, 949949734, 949949734, 949949734])

    def test_four_players_of_whom_one_has_written_nothing(self):
        line = [(BEGINS, 4, 1, 6)] + [(PRESS, machine, 1) for machine in range(4)]
        line += [(SEND, 0), (SEND, 1), (SEND, 2)] + [(ARRIVE, 0)] * 9
        self.assertEqual(last(*line, (AGREE,)), [0] + [691875009] * 4)
        # The world 1, 0, 0, 3, 2, 0, 5, 4, 0, 7, 6, 0, 4, 1 with the luck 1.
        self.assertEqual(last(*line, (SEND, 3), *[(ARRIVE, 0)] * 3, (AGREE,)), [1] + [518891989] * 4)


if __name__ == "__main__":
    unittest.main()
