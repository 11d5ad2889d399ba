import unittest

from badnet.game import Game
from tests.helper import ARRIVE, BEGINS, LOSE, PRESS, SEND, SHOWN, TWICE, last, presses, told


class Send(unittest.TestCase):
    def test_to_each_other_one_in_order(self):
        line = [(BEGINS, 4, 1, 6)] + presses(2, [1, 2])
        self.assertEqual(last(*line, (SEND, 2)), [3, 0, 0, 2, 1, 0, 2, 3, 0, 2])
        self.assertEqual(last(*line, (SEND, 0)), [3, 1, 0, 0, 2, 0, 0, 3, 0, 0])
        self.assertEqual(last(*line, (SEND, 3)), [3, 0, 0, 0, 1, 0, 0, 2, 0, 0])

    def test_of_one_player_and_of_two(self):
        self.assertEqual(told((BEGINS, 1, 1, 6), (PRESS, 0, 1), (SEND, 0), (LOSE, 0))[2:], [[0], [-2]])
        self.assertEqual(last((BEGINS, 2, 1, 6), (SEND, 1)), [1, 0, 0, 0])

    def test_from_where_they_are_known_to_be_there(self):
        line = presses(0, [1, 1]) + [(SEND, 0), (ARRIVE, 0)]
        # That the letter came is not known before the other one has written.
        self.assertEqual(last(*line, (SEND, 0)), [1, 1, 0, 2])
        line += [(SEND, 1), (ARRIVE, 0)]
        self.assertEqual(last(*line, (SEND, 0)), [1, 1, 2, 0])
        self.assertEqual(last(*line, (PRESS, 0, 3), (SEND, 0)), [1, 1, 2, 1])

    def test_each_receiver_from_its_own_tick_on(self):
        line = [(BEGINS, 3, 1, 6)] + presses(0, [1, 2, 3])
        line += [(SEND, 0), (ARRIVE, 1), (SEND, 2), (ARRIVE, 1), (PRESS, 0, 0)]
        self.assertEqual(last(*line, (SEND, 0)), [2, 1, 0, 4, 2, 3, 1])

    def test_a_letter_stays_as_it_was_written(self):
        line = [(PRESS, 0, 1), (SEND, 0), (PRESS, 0, 2), (ARRIVE, 0)] + presses(1, [0, 0])
        self.assertEqual(last(*line), [2, 2, 0, 0, 2, 2, 0, 4, 1])


class Arrive(unittest.TestCase):
    def test_to_whom_how_many_sure_how_many_played_again(self):
        line = presses(0, [1, 2]) + presses(1, [0, 0, 0]) + [(SEND, 0)]
        self.assertEqual(last(*line, (ARRIVE, 0)), [1, 2, 3])

    def test_the_receivers_keys_that_are_told_are_there(self):
        line = [(PRESS, 0, 1), (SEND, 0), (ARRIVE, 0), (SEND, 1), (ARRIVE, 0)]
        self.assertEqual(told(*line)[-2:], [[1, 0, 0, 0], [0, 0, 0]])
        self.assertEqual(last(*line, (SEND, 0)), [1, 1, 1, 0])

    def test_a_late_letter_that_tells_fewer_takes_nothing_back(self):
        line = [(SEND, 1)] + presses(0, [1, 1]) + [(SEND, 0), (ARRIVE, 1), (SEND, 1)]
        line += [(ARRIVE, 1), (ARRIVE, 0)]
        self.assertEqual(last(*line, (SEND, 0)), [1, 1, 2, 0])

    def test_letters_in_another_order(self):
        line = [(PRESS, 0, 1), (SEND, 0), (PRESS, 0, 2), (SEND, 0), (PRESS, 1, 0), (PRESS, 1, 0)]
        given = told(*line, (ARRIVE, 1), (ARRIVE, 0), (SHOWN, 1))
        self.assertEqual(given[-3:], [[1, 2, 2], [1, 2, 2], [2, 1, 1, 0, 2, 2, 0, 4, 1]])

    def test_a_first_key_behind_what_the_receiver_knows(self):
        line = [(PRESS, 0, 1), (SEND, 0), (PRESS, 0, 2), (PRESS, 0, 2), (SEND, 0)]
        given = told(*line, (ARRIVE, 0), (ARRIVE, 0), *presses(1, [0, 0, 0]))
        self.assertEqual(given[-5:], [
            [1, 0, 0], [1, 0, 0],
            [1, 1, 0, 0, 2, 2, 0, 4, 1],
            [2, 1, 1, 0, 2, 2, 0, 4, 1],
            [3, 1, 2, 0, 2, 2, 0, 4, 1],
        ])

    def test_what_is_beyond_a_first_key_above_0(self):
        line = presses(0, [1, 1]) + [(SEND, 0), (ARRIVE, 0), (SEND, 1), (ARRIVE, 0)]
        line += [(PRESS, 0, 2), (SEND, 0), (PRESS, 0, 3), (SEND, 0)]
        given = told(*line, (ARRIVE, 0), (ARRIVE, 0), *presses(1, [0, 0, 0, 0]))
        self.assertEqual(given[7], [1, 1, 2, 1])
        self.assertEqual(given[9], [1, 1, 2, 2])
        self.assertEqual([answer[1:3] for answer in given[-4:]], [[1, 0], [2, 0], [2, 1], [1, 1]])

    def test_keys_that_do_not_reach_to_the_first_one_are_not_known(self):
        # No line comes to this: what a sender knows to be there is there.
        game = Game()
        game.press(0, 1)
        game.press(0, 2)
        game.machines[0].there[1] = 1
        self.assertEqual(game.send(0), [1, 1, 1, 1])
        game.press(1, 0)
        self.assertEqual(game.arrive(0), [1, 0, 0])
        self.assertEqual(game.machines[1].known, [[], [0]])

    def test_only_the_receiver_learns(self):
        line = [(BEGINS, 3, 1, 6), (PRESS, 0, 1), (SEND, 0), (ARRIVE, 0), (PRESS, 1, 0), (PRESS, 2, 0)]
        self.assertEqual(told(*line)[-2:], [
            [1, 1, 0, 0, 2, 2, 0, 4, 4, 0, 4, 1],
            [1, 0, 0, 0, 2, 2, 0, 4, 4, 0, 4, 1],
        ])

    def test_keys_come_from_their_own_player_alone(self):
        # Machine 1 knows player 0's key, but writes its own ones only.
        line = [(BEGINS, 3, 1, 6), (PRESS, 0, 1), (SEND, 0), (ARRIVE, 0), (SEND, 1), (ARRIVE, 2), (PRESS, 2, 0)]
        given = told(*line)
        self.assertEqual(given[-3:], [
            [2, 0, 0, 0, 2, 0, 0], [2, 0, 0], [1, 0, 0, 0, 2, 2, 0, 4, 4, 0, 4, 1]])


class OnTheWay(unittest.TestCase):
    def test_lost(self):
        line = presses(0, [1, 1]) + [(SEND, 0), (SEND, 0), (LOSE, 0)]
        self.assertEqual(last(*line), [1])
        self.assertEqual(told(*line, (LOSE, 0), (ARRIVE, 0), (PRESS, 1, 0))[-3:], [
            [0], [-2], [1, 0, 0, 0, 2, 2, 0, 4, 1]])
        # What was lost is in the next letter, too.
        self.assertEqual(told(*line, (ARRIVE, 0), (PRESS, 1, 0))[-2:], [
            [1, 0, 0], [1, 1, 0, 0, 2, 2, 0, 4, 1]])

    def test_twice(self):
        line = [(PRESS, 0, 1), (PRESS, 1, 0), (SEND, 0), (TWICE, 0)]
        self.assertEqual(last(*line), [2])
        given = told(*line, (ARRIVE, 1), (ARRIVE, 0), (ARRIVE, 0), (SHOWN, 1))
        self.assertEqual(given[-4:], [[1, 1, 1], [1, 1, 1], [-2], [1, 1, 0, 0, 2, 2, 0, 4, 1]])

    def test_twice_lies_behind_all(self):
        line = [(BEGINS, 4, 1, 6), (SEND, 0), (TWICE, 0), (TWICE, 1)]
        given = told(*line, *[(ARRIVE, 0)] * 6)
        self.assertEqual(given[2:4], [[4], [5]])
        self.assertEqual([answer[0] for answer in given[4:]], [1, 2, 3, 1, 2, -2])

    def test_twice_is_like_the_letter_not_written_anew(self):
        line = [(PRESS, 0, 1), (SEND, 0), (PRESS, 0, 2), (TWICE, 0), (LOSE, 0), (ARRIVE, 0)]
        given = told(*line, *presses(1, [0, 0]))
        self.assertEqual(given[-1], [2, 2, 0, 0, 2, 2, 0, 4, 1])

    def test_numbers_behind_one_that_has_come(self):
        line = [(BEGINS, 4, 1, 6), (SEND, 0), (SEND, 1)]
        # On their way are letters to 1, 2, 3, 0, 2, 3.
        given = told(*line, (ARRIVE, 1), (ARRIVE, 1), (ARRIVE, 1), (ARRIVE, 0), (ARRIVE, 1), (ARRIVE, 0), (ARRIVE, 0))
        self.assertEqual([answer[0] for answer in given[3:]], [2, 3, 0, 1, 3, 2, -2])

    def test_numbers_behind_one_that_is_lost(self):
        line = [(BEGINS, 4, 1, 6), (SEND, 0), (SEND, 1)]
        given = told(*line, (LOSE, 3), (LOSE, 0), *[(ARRIVE, 0)] * 5)
        self.assertEqual(given[3:5], [[5], [4]])
        self.assertEqual([answer[0] for answer in given[5:]], [2, 3, 2, 3, -2])

    def test_numbers_before_one_that_has_come_stay(self):
        line = [(BEGINS, 4, 1, 6), (SEND, 0)]
        given = told(*line, (ARRIVE, 2), (ARRIVE, 1), (ARRIVE, 0))
        self.assertEqual([answer[0] for answer in given[2:]], [3, 2, 1])


if __name__ == "__main__":
    unittest.main()
