"""What sure, at, machine and net answer."""

import unittest

from tests.helper import (
    ARRIVE, AT, BEGINS, BEGUN, LOSE, MACHINE, NET, PRESS, SEND, SHOWN, SURE, TWICE, last, presses, told)

# Machine 1 has shown three ticks and knows one key of player 0.
KNOWS_LESS = presses(0, [1]) + presses(1, [2, 2, 2]) + [(SEND, 0), (ARRIVE, 0)]
# Machine 1 has shown one tick and knows three keys of player 0.
KNOWS_MORE = presses(0, [1, 1, 2]) + [(PRESS, 1, 2), (SEND, 0), (ARRIVE, 0)]
# Machine 1 has had letters from 0 and 2, none from 3; machine 2 has had one from 1; on their way are
# letters from 0 to 2 and 3, from 1 to 0 and 3, from 2 to 0 and 3.
SOME_LETTERS = [(BEGINS, 4, 1, 6)] + presses(0, [1]) + presses(1, [1, 2]) + presses(2, [2, 2, 2]) + [
    (SEND, 0), (ARRIVE, 0), (SEND, 1), (ARRIVE, 3), (SEND, 2), (ARRIVE, 5)]


class Sure(unittest.TestCase):
    def test_nothing_pressed(self):
        self.assertEqual(told((SURE, 0), (SURE, 1)), [[0] + BEGUN[2]] * 2)
        for players in BEGUN:
            self.assertEqual(last((BEGINS, players, 1, 6), (SURE, players - 1)), [0] + BEGUN[players])

    def test_a_machine_that_knows_more_of_the_others_than_it_has_shown(self):
        self.assertEqual(last(*KNOWS_MORE, (SURE, 1)), [1, 1, 0, 0, 2, 3, 0, 4, 1])

    def test_a_machine_that_has_shown_nothing(self):
        self.assertEqual(last(*presses(0, [1, 1]), (SEND, 0), (ARRIVE, 0), (SURE, 1)), [0] + BEGUN[2])

    def test_a_machine_that_knows_less_of_the_others_than_it_has_shown(self):
        given = told(*KNOWS_LESS, (SHOWN, 1), (SURE, 1))
        self.assertEqual(given[-2:], [[3, 3, 0, 0, 2, 5, 0, 4, 1], [1, 1, 0, 0, 2, 3, 0, 4, 1]])

    def test_a_machine_that_knows_nothing_of_the_others(self):
        self.assertEqual(last(*KNOWS_MORE, (SURE, 0)), [0] + BEGUN[2])

    def test_the_least_known_of_three(self):
        line = [(BEGINS, 3, 1, 6)] + presses(0, [1, 1, 1]) + presses(1, [2, 2]) + presses(2, [3])
        line += [(SEND, 1), (SEND, 2), (ARRIVE, 0)]
        self.assertEqual(last(*line, (SURE, 0)), [0] + BEGUN[3])
        self.assertEqual(last(*line, (ARRIVE, 1), (SURE, 0)), [1, 1, 0, 0, 2, 3, 0, 3, 4, 0, 4, 1])

    def test_one_player_is_sure_of_all(self):
        line = [(BEGINS, 1, 1, 1)] + presses(0, [1, 1, 1, 1, 2])
        self.assertEqual(last(*line, (SURE, 0)), [5, 4, 1, 1, 6, 6])

    def test_a_guessed_point_is_not_sure(self):
        line = [(BEGINS, 2, 1, 20)] + presses(0, [4, 1, 1, 1, 1, 2]) + [(SEND, 0)] + presses(1, [0] * 7)
        given = told(*line, (ARRIVE, 0), (SHOWN, 1), (SURE, 1))
        self.assertEqual(given[-2:], [[7, 4, 1, 1, 2, 2, 0, 6, 6], [6, 4, 0, 0, 2, 2, 0, 4, 1]])

    def test_what_is_sure_on_two_machines_is_the_same(self):
        # Player 0 is at 1, 1 first, so player 1 is kept off and stays at 1, 2.
        line = presses(0, [1, 2]) + presses(1, [3, 4]) + [(SEND, 0), (SEND, 1), (ARRIVE, 1), (ARRIVE, 0)]
        self.assertEqual(told(*line, (SURE, 0), (SURE, 1))[-2:], [[2, 1, 1, 0, 1, 2, 0, 4, 1]] * 2)
        self.assertEqual(told(*line, (AT, 0, 1), (AT, 1, 1))[-2:], [[1, 1, 0, 0, 1, 2, 0, 4, 1]] * 2)


class At(unittest.TestCase):
    def test_each_tick_that_was_shown(self):
        given = told(*KNOWS_LESS, *[(AT, 1, ticks) for ticks in range(5)])
        self.assertEqual(given[-5:], [
            [1, 0, 0, 0, 2, 2, 0, 4, 1],
            [1, 1, 0, 0, 2, 3, 0, 4, 1],
            [0, 2, 0, 0, 2, 4, 0, 4, 1],
            [0, 3, 0, 0, 2, 5, 0, 4, 1],
            [-2],
        ])

    def test_guessed_ticks_are_put_right_and_sure_ones_stay(self):
        line = KNOWS_LESS + [(PRESS, 0, 2), (SEND, 0), (ARRIVE, 0)]
        given = told(*line, *[(AT, 1, ticks) for ticks in range(4)])
        self.assertEqual(given[-4:], [
            [1, 0, 0, 0, 2, 2, 0, 4, 1],
            [1, 1, 0, 0, 2, 3, 0, 4, 1],
            [1, 1, 1, 0, 2, 4, 0, 4, 1],
            [0, 1, 2, 0, 2, 5, 0, 4, 1],
        ])

    def test_no_ticks_are_sure_everywhere(self):
        self.assertEqual(told((AT, 0, 0), (AT, 1, 0)), [[1] + BEGUN[2]] * 2)
        self.assertEqual(last(*KNOWS_MORE, (AT, 0, 0)), [1] + BEGUN[2])
        for players in BEGUN:
            line = [(BEGINS, players, 1, 6)] + presses(0, [1, 1, 1])
            self.assertEqual(last(*line, (AT, 0, 0)), [1] + BEGUN[players])

    def test_what_is_known_but_not_shown(self):
        given = told(*KNOWS_MORE, (AT, 1, 1), (AT, 1, 2))
        self.assertEqual(given[-2:], [[1, 1, 0, 0, 2, 3, 0, 4, 1], [-2]])

    def test_nothing_known_of_the_other_is_no_tick_sure(self):
        given = told(*presses(0, [1, 1]), (AT, 0, 1), (AT, 0, 2))
        self.assertEqual(given[-2:], [[0, 1, 0, 0, 2, 2, 0, 4, 1], [0, 2, 0, 0, 2, 2, 0, 4, 1]])

    def test_the_coin_lies_again_where_it_lay(self):
        line = [(BEGINS, 1, 1, 1)] + presses(0, [1, 1, 1, 1, 2])
        self.assertEqual(told(*line, (AT, 0, 5), (AT, 0, 4))[-2:], [[1, 4, 1, 1, 6, 6], [1, 4, 0, 0, 4, 1]])


class OfAMachine(unittest.TestCase):
    def test_nothing_pressed(self):
        self.assertEqual(told((MACHINE, 0), (MACHINE, 1)), [[0] * 7] * 2)
        for players in BEGUN:
            line = [(BEGINS, players, 1, 6), (MACHINE, 0), (MACHINE, players - 1)]
            self.assertEqual(told(*line)[1:], [[0] * (3 + 2 * players)] * 2)

    def test_letters_from_some_and_from_others_not(self):
        given = told(*SOME_LETTERS, *[(MACHINE, machine) for machine in range(4)])
        self.assertEqual(given[-4:], [
            [1, 0, 0, 1, 0, 0, 0, 0, 0, 0, 0],
            [2, 0, 4, 1, 2, 3, 0, 0, 0, 2, 0],
            [3, 0, 3, 0, 2, 3, 0, 0, 0, 0, 0],
            [0, 0, 0, 0, 0, 0, 0, 0, 0, 0, 0],
        ])

    def test_the_last_letter_makes_one_tick_sure(self):
        line = SOME_LETTERS + [(PRESS, 3, 4), (SEND, 3), (ARRIVE, 7)]
        self.assertEqual(last(*line, (MACHINE, 1)), [2, 1, 6, 1, 2, 3, 1, 0, 0, 2, 0])

    def test_one_player(self):
        self.assertEqual(last((BEGINS, 1, 1, 1), *presses(0, [1, 1]), (SEND, 0), (MACHINE, 0)), [2, 2, 0, 2, 0])

    def test_its_own_keys_are_there_only_when_it_was_told(self):
        line = presses(0, [1, 1]) + [(SEND, 0), (ARRIVE, 0)]
        self.assertEqual(told(*line, (MACHINE, 0), (MACHINE, 1))[-2:], [[2, 0, 0, 2, 0, 0, 0], [0, 0, 0, 2, 0, 0, 0]])
        line += [(SEND, 1), (ARRIVE, 0)]
        self.assertEqual(last(*line, (MACHINE, 0)), [2, 0, 0, 2, 0, 0, 2])


class Net(unittest.TestCase):
    def test_no_letter(self):
        self.assertEqual(last((NET,)), [0])
        self.assertEqual(last(*presses(0, [1, 2]), (NET,)), [0])
        for players in BEGUN:
            self.assertEqual(last((BEGINS, players, 1, 6), (NET,)), [0])

    def test_one_player_writes_to_nobody(self):
        self.assertEqual(last((BEGINS, 1, 1, 6), (PRESS, 0, 1), (SEND, 0), (NET,)), [0])

    def test_nothing_pressed(self):
        self.assertEqual(last((SEND, 1), (NET,)), [1, 1, 0, 0, 0, 0])
        self.assertEqual(last((BEGINS, 3, 1, 6), (SEND, 1), (NET,)), [2, 1, 0, 0, 0, 0, 1, 2, 0, 0, 0])

    def test_from_which_tick_on_and_what_is_told(self):
        line = presses(0, [1, 1]) + [(SEND, 0), (ARRIVE, 0), (SEND, 1), (ARRIVE, 0), (PRESS, 0, 3), (SEND, 0)]
        self.assertEqual(last(*line, (NET,)), [1, 0, 1, 2, 1, 0])
        self.assertEqual(last(*line, (SEND, 1), (NET,)), [2, 0, 1, 2, 1, 0, 1, 0, 0, 0, 2])

    def test_three_players(self):
        line = [(BEGINS, 3, 1, 6), (PRESS, 2, 1), (SEND, 2), (ARRIVE, 0), (SEND, 0)]
        self.assertEqual(last(*line, (NET,)), [3, 2, 1, 0, 1, 0, 0, 1, 0, 0, 0, 0, 2, 0, 0, 1])

    def test_four_players_in_the_order_in_which_they_were_sent(self):
        self.assertEqual(last(*SOME_LETTERS, (NET,)), [
            6,
            0, 2, 0, 1, 0,
            0, 3, 0, 1, 0,
            1, 0, 0, 2, 1,
            1, 3, 0, 2, 0,
            2, 0, 0, 3, 0,
            2, 3, 0, 3, 0,
        ])

    def test_a_letter_stays_as_it_was_written(self):
        line = [(PRESS, 0, 1), (SEND, 0), (PRESS, 1, 1), (SEND, 1), (ARRIVE, 1), (PRESS, 0, 1)]
        self.assertEqual(last(*line, (NET,)), [1, 0, 1, 0, 1, 0])
        self.assertEqual(last(*line, (SEND, 0), (NET,)), [2, 0, 1, 0, 1, 0, 0, 1, 0, 2, 1])

    def test_twice_lies_behind_all_and_what_is_lost_is_gone(self):
        line = [(PRESS, 0, 1), (SEND, 0), (SEND, 1), (TWICE, 0)]
        first, second = [0, 1, 0, 1, 0], [1, 0, 0, 0, 0]
        self.assertEqual(last(*line, (NET,)), [3] + first + second + first)
        self.assertEqual(last(*line, (LOSE, 0), (NET,)), [2] + second + first)
        self.assertEqual(last(*line, (LOSE, 1), (NET,)), [2] + first + first)
        self.assertEqual(last(*line, (ARRIVE, 2), (NET,)), [2] + first + second)

    def test_forty_letters(self):
        line = [(BEGINS, 4, 1, 1), (PRESS, 0, 2)] + [(SEND, 0)] * 13 + [(TWICE, 2)]
        three = [0, 1, 0, 1, 0, 0, 2, 0, 1, 0, 0, 3, 0, 1, 0]
        self.assertEqual(last(*line, (NET,)), [40] + three * 13 + three[10:])

    def test_begins_leaves_no_letter(self):
        self.assertEqual(last((SEND, 0), (BEGINS, 2, 1, 6), (NET,)), [0])


if __name__ == "__main__":
    unittest.main()
