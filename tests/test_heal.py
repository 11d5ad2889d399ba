"""What heal does and answers."""

import unittest

from tests.helper import (
    AGREE, ARRIVE, BEGINS, BEGUN, HEAL, LOSE, MACHINE, NET, PRESS, SEND, SHOWN, SURE, TWICE, full_game, presses, told)


class Healed(unittest.TestCase):
    def test_nothing_pressed(self):
        self.assertEqual(told((HEAL,), (NET,)), [[0, 0, 0], [0]])
        for players in BEGUN:
            line = [(BEGINS, players, 1, 6), (HEAL,), (NET,), (SHOWN, players - 1)]
            self.assertEqual(told(*line)[1:], [[0] * (players + 1), [0], [0] + BEGUN[players]])

    def test_one_player(self):
        line = [(BEGINS, 1, 1, 1)] + presses(0, [1, 1])
        self.assertEqual(told(*line, (HEAL,), (MACHINE, 0))[-2:], [[2, 0], [2, 2, 0, 2, 0]])

    def test_two_players_and_no_letter_on_its_way(self):
        line = presses(0, [1, 2]) + presses(1, [2, 2, 2])
        given = told(*line, (HEAL,), (NET,), (SHOWN, 0), (SHOWN, 1), (SURE, 0), (SURE, 1))
        self.assertEqual(given[-6:], [
            [2, 2, 3],
            [0],
            [2, 1, 1, 0, 2, 4, 0, 4, 1],
            [3, 1, 2, 0, 2, 5, 0, 4, 1],
            [2, 1, 1, 0, 2, 4, 0, 4, 1],
            [2, 1, 1, 0, 2, 4, 0, 4, 1],
        ])

    def test_three_players(self):
        line = [(BEGINS, 3, 1, 6)] + presses(0, [1]) + presses(1, [2, 2]) + presses(2, [3, 3, 3])
        given = told(*line, (HEAL,), (SHOWN, 0), (SHOWN, 1), (SHOWN, 2))
        self.assertEqual(given[-4:], [
            [1, 2, 4, 6],
            [1, 1, 0, 0, 2, 3, 0, 3, 4, 0, 4, 1],
            [2, 2, 0, 0, 2, 4, 0, 3, 4, 0, 4, 1],
            [3, 3, 0, 0, 2, 5, 0, 2, 4, 0, 4, 1],
        ])

    def test_four_players_show_the_same(self):
        line = [(BEGINS, 4, 1, 6)]
        for machine, keys in enumerate([[1, 2], [2, 2], [3, 4], [4, 1]]):
            line += presses(machine, keys)
        given = told(*line, (HEAL,), *[(SHOWN, machine) for machine in range(4)])
        self.assertEqual(given[-5], [2, 6, 6, 6, 6])
        self.assertEqual(given[-4:], [[2, 1, 1, 0, 2, 4, 0, 3, 3, 0, 7, 5, 0, 4, 1]] * 4)

    def test_what_was_lost_is_known_all_the_same(self):
        line = presses(0, [1, 2]) + [(SEND, 0), (LOSE, 0)] + presses(1, [2, 2])
        self.assertEqual(told(*line, (HEAL,), (MACHINE, 1))[-2:], [[2, 2, 2], [2, 2, 2, 2, 2, 0, 0]])

    def test_all_agree_behind_it(self):
        line = presses(0, [1, 1, 1, 1, 2]) + presses(1, [0] * 5) + [(SEND, 1)]
        self.assertEqual(told(*line, (HEAL,), (AGREE,))[-2:], [[5, 0, 5], [5, 75318020, 75318020]])


class LettersOnTheirWay(unittest.TestCase):
    def setUp(self):
        # To machine 1, which has shown four ticks: first one with key 1, then one with keys 1 and 2.
        self.line = presses(1, [0] * 4) + [(PRESS, 0, 1), (SEND, 0), (PRESS, 0, 2), (SEND, 0)]

    def test_they_come_in_order(self):
        self.assertEqual(told(*self.line, (HEAL,), (NET,))[-2:], [[2, 0, 7], [0]])

    def test_the_old_one_last(self):
        given = told(*self.line, (TWICE, 0), (LOSE, 0), (HEAL,), (NET,), (MACHINE, 1))
        self.assertEqual(given[-3:], [[2, 0, 4], [0], [4, 2, 4, 2, 4, 0, 0]])

    def test_each_twice_there(self):
        given = told(*self.line, (TWICE, 0), (TWICE, 1), (TWICE, 0), (HEAL,), (NET,), (SHOWN, 1))
        self.assertEqual(given[-3:], [[2, 0, 7], [0], [4, 1, 3, 0, 2, 2, 0, 4, 1]])

    def test_older_than_what_is_known_already(self):
        given = told(*self.line, (ARRIVE, 1), (HEAL,), (NET,), (SHOWN, 1))
        self.assertEqual(given[-4:], [[1, 2, 4], [2, 0, 4], [0], [4, 1, 3, 0, 2, 2, 0, 4, 1]])

    def test_they_come_before_any_is_written(self):
        # So machine 1 writes of what the first letter brought.
        line = [(PRESS, 0, 1), (SEND, 0), (HEAL,), (MACHINE, 0), (SEND, 0)]
        self.assertEqual(told(*line)[-2:], [[1, 0, 0, 1, 0, 0, 1], [1, 1, 1, 0]])

    def test_all_are_written_before_the_first_of_them_comes(self):
        # So what they bring is told in the next letters only.
        line = presses(0, [1, 2]) + presses(1, [2, 2, 2]) + [(HEAL,)]
        given = told(*line, (MACHINE, 0), (MACHINE, 1), (HEAL,), (MACHINE, 0), (MACHINE, 1))
        self.assertEqual(given[-5:], [
            [2, 2, 2, 2, 3, 0, 0],
            [3, 2, 3, 2, 3, 0, 0],
            [2, 2, 3],
            [2, 2, 2, 2, 3, 0, 2],
            [3, 2, 3, 2, 3, 3, 0],
        ])

    def test_forty_on_their_way_do_not_hold_it_back(self):
        line = [(BEGINS, 4, 1, 6), (PRESS, 0, 1), (PRESS, 1, 2)] + [(SEND, 3)] * 13 + [(TWICE, 0), (SEND, 0)]
        given = told(*line, (HEAL,), (NET,), (MACHINE, 0), (MACHINE, 3), (SEND, 0))
        self.assertEqual(given[-6:], [
            [-5],
            [0, 1, 1, 0, 0],
            [0],
            [1, 0, 1, 1, 1, 0, 0, 0, 0, 0, 0],
            [0, 0, 0, 1, 1, 0, 0, 0, 0, 0, 0],
            [3, 1, 0, 1, 2, 0, 1, 3, 0, 1],
        ])

    def test_with_as_many_as_send_refuses(self):
        # 38 and 39 on their way: send would be refused for each of four machines.
        for more in [(LOSE, 0), (NET,)]:
            line = [(BEGINS, 4, 1, 6)] + [(PRESS, machine, 2) for machine in range(4)] + [(SEND, 2)] * 13 + [more]
            self.assertEqual(told(*line, (SEND, 0), (HEAL,), (NET,))[-3:], [[-5], [1, 3, 3, 3, 3], [0]])

    def test_two_players_with_forty(self):
        game = full_game()
        game.press(1, 1)
        self.assertEqual(game.send(1), [-5])
        self.assertEqual(game.heal(), [0, 0, 0])
        self.assertEqual(game.net(), [0])
        self.assertEqual(game.machine(0), [0, 0, 0, 0, 1, 0, 0])


class PlayedAgain(unittest.TestCase):
    def test_the_count_goes_on_through_it(self):
        line = presses(1, [0] * 4) + [(PRESS, 0, 1), (SEND, 0), (ARRIVE, 0), (PRESS, 0, 2), (HEAL,)]
        line += [(PRESS, 0, 3), (HEAL,), (HEAL,), (PRESS, 0, 4), (SEND, 0), (ARRIVE, 0)]
        given = told(*line)
        self.assertEqual([given[6], given[8], given[10], given[11], given[14]], [
            [1, 1, 4], [2, 0, 7], [3, 0, 9], [3, 0, 9], [1, 4, 10]])

    def test_begins_counts_anew(self):
        line = [(PRESS, 1, 0), (PRESS, 0, 1), (HEAL,), (BEGINS, 2, 1, 6), (HEAL,)]
        self.assertEqual(told(*line)[2::2], [[1, 0, 1], [0, 0, 0]])


class TooFarAhead(unittest.TestCase):
    def test_allowed_behind_it_if_all_have_shown_enough(self):
        line = [(BEGINS, 2, 1, 1), (PRESS, 0, 1), (PRESS, 1, 2), (PRESS, 0, 1), (HEAL,), (PRESS, 0, 1), (PRESS, 0, 1)]
        self.assertEqual(told(*line)[3:], [[-6], [1, 1, 1], [2, 2, 0, 0, 2, 4, 0, 4, 1], [-6]])

    def test_still_refused_if_one_has_not(self):
        line = [(BEGINS, 3, 1, 1), (PRESS, 0, 1), (PRESS, 1, 2), (PRESS, 0, 1), (HEAL,), (PRESS, 0, 1)]
        self.assertEqual(told(*line)[3:], [[-6], [0, 1, 1, 0], [-6]])
        given = told(*line, (PRESS, 2, 0), (HEAL,), (PRESS, 0, 1))
        self.assertEqual(given[-2:], [[1, 1, 1, 0], [2, 2, 0, 0, 2, 4, 0, 4, 4, 0, 4, 1]])

    def test_as_far_as_may_be_beyond_what_the_slowest_has_shown(self):
        line = [(BEGINS, 2, 1, 3)] + presses(0, [0] * 4) + [(PRESS, 1, 0), (HEAL,), (PRESS, 0, 0), (PRESS, 0, 0)]
        self.assertEqual([answer[0] for answer in told(*line)[4:]], [-6, 1, 1, 4, -6])


if __name__ == "__main__":
    unittest.main()
