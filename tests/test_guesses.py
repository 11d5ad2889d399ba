import unittest

from tests.helper import ARRIVE, BEGINS, PRESS, SEND, SHOWN, last, presses, told


class Taken(unittest.TestCase):
    def test_nothing_known_is_taken_for_0(self):
        self.assertEqual(last(*presses(1, [0, 0])), [2, 0, 0, 0, 2, 2, 0, 4, 1])

    def test_the_last_known_key_goes_on(self):
        line = presses(0, [1, 2]) + [(SEND, 0), (ARRIVE, 0)]
        given = told(*line, *presses(1, [0, 0, 0, 0]))
        self.assertEqual([answer[1:3] for answer in given[-4:]], [[1, 0], [1, 1], [1, 2], [1, 3]])

    def test_a_last_known_0_goes_on(self):
        line = presses(0, [1, 0]) + [(SEND, 0), (ARRIVE, 0)]
        given = told(*line, *presses(1, [0, 0, 0]))
        self.assertEqual([answer[1:3] for answer in given[-3:]], [[1, 0], [1, 0], [1, 0]])

    def test_known_keys_beyond_what_is_shown_wait(self):
        line = presses(0, [1, 1, 1]) + [(PRESS, 1, 0), (SEND, 0), (ARRIVE, 0), (SHOWN, 1)]
        self.assertEqual(told(*line)[-2:], [[1, 1, 1], [1, 1, 0, 0, 2, 2, 0, 4, 1]])

    def test_a_point_that_was_not_guessed(self):
        # Player 0 goes right four times, then, as guessed, once more; but it went down, onto the coin.
        line = [(BEGINS, 2, 1, 20)] + presses(0, [1, 1, 1, 1]) + [(SEND, 0)]
        line += presses(1, [0] * 5) + [(ARRIVE, 0), (SHOWN, 1), (PRESS, 0, 2), (SEND, 0), (ARRIVE, 0), (SHOWN, 1)]
        given = told(*line)
        self.assertEqual(given[11:13], [[1, 4, 5], [5, 5, 0, 0, 2, 2, 0, 4, 1]])
        self.assertEqual(given[15:], [[1, 5, 6], [5, 4, 1, 1, 2, 2, 0, 6, 6]])

    def test_a_guessed_point_is_put_right(self):
        # On machine 1 player 0 goes down onto the coin by guess; known, it had stopped above it.
        line = [(BEGINS, 2, 1, 20)] + presses(0, [4, 1, 1, 1, 1, 2]) + [(SEND, 0)]
        line += presses(1, [0] * 7) + [(ARRIVE, 0), (SHOWN, 1), (PRESS, 0, 0), (SEND, 0), (ARRIVE, 0), (SHOWN, 1)]
        given = told(*line)
        self.assertEqual(given[15:17], [[1, 6, 7], [7, 4, 1, 1, 2, 2, 0, 6, 6]])
        self.assertEqual(given[19:], [[1, 7, 8], [7, 4, 0, 0, 2, 2, 0, 4, 1]])


class PlayedAgain(unittest.TestCase):
    def test_from_the_first_that_is_taken_otherwise(self):
        line = presses(1, [0] * 4) + presses(0, [0, 0, 1]) + [(SEND, 0), (ARRIVE, 0), (SHOWN, 1)]
        self.assertEqual(told(*line)[-2:], [[1, 3, 2], [4, 2, 0, 0, 2, 2, 0, 4, 1]])

    def test_all_from_the_very_first(self):
        line = presses(1, [0] * 4) + [(PRESS, 0, 1), (SEND, 0), (ARRIVE, 0)]
        self.assertEqual(last(*line), [1, 1, 4])

    def test_only_the_last(self):
        line = presses(1, [0] * 4) + presses(0, [0, 0, 0, 2]) + [(SEND, 0), (ARRIVE, 0)]
        self.assertEqual(last(*line), [1, 4, 1])

    def test_none_when_guessed_well(self):
        line = presses(0, [1]) + [(SEND, 0), (ARRIVE, 0)] + presses(1, [0] * 4)
        line += presses(0, [1, 1]) + [(SEND, 0), (ARRIVE, 0)]
        self.assertEqual(last(*line), [1, 3, 0])

    def test_none_when_not_yet_shown(self):
        line = presses(1, [0, 0]) + presses(0, [0, 0, 1]) + [(SEND, 0), (ARRIVE, 0)]
        self.assertEqual(last(*line), [1, 2, 0])
        self.assertEqual(last(*line, (PRESS, 1, 0)), [3, 1, 0, 0, 2, 2, 0, 4, 1])

    def test_back_to_the_same_key_counts_from_the_first_difference(self):
        line = presses(0, [1]) + [(SEND, 0), (ARRIVE, 0)] + presses(1, [0] * 5)
        line += presses(0, [1, 2, 1]) + [(SEND, 0), (ARRIVE, 0), (SHOWN, 1)]
        self.assertEqual(told(*line)[-2:], [[1, 4, 3], [5, 4, 1, 1, 2, 2, 0, 6, 6]])

    def test_taken_otherwise_counts_even_if_the_world_is_the_same(self):
        # Player 0 stands above player 1 and presses down: it is kept off, as if it pressed nothing.
        line = presses(0, [1, 1, 2]) + [(PRESS, 0, 0), (SEND, 0), (ARRIVE, 0)] + presses(1, [0] * 6)
        line += [(PRESS, 0, 2), (SEND, 0), (ARRIVE, 0), (SHOWN, 1)]
        given = told(*line)
        self.assertEqual(given[11], [6, 2, 1, 0, 2, 2, 0, 4, 1])
        self.assertEqual(given[-2:], [[1, 5, 2], [6, 2, 1, 0, 2, 2, 0, 4, 1]])

    def test_the_count_goes_on_from_letter_to_letter(self):
        line = presses(1, [0] * 4) + [(PRESS, 0, 1), (SEND, 0), (ARRIVE, 0)]
        line += [(PRESS, 0, 2), (SEND, 0), (ARRIVE, 0), (SEND, 0), (ARRIVE, 0)]
        given = told(*line)
        self.assertEqual([given[6], given[9], given[11]], [[1, 1, 4], [1, 2, 7], [1, 2, 7]])

    def test_each_machine_counts_its_own(self):
        line = [(BEGINS, 3, 1, 6)] + presses(0, [1]) + presses(1, [2, 2]) + presses(2, [3, 3, 3])
        line += [(SEND, 0), (SEND, 1), (SEND, 2)] + [(ARRIVE, 0)] * 6
        # To 1 and 2 from 0, to 0 and 2 from 1, to 0 and 1 from 2.
        self.assertEqual(told(*line)[-6:], [[1, 0, 2], [2, 0, 3], [0, 0, 1], [2, 1, 6], [0, 1, 2], [1, 1, 4]])

    def test_begins_counts_anew(self):
        line = presses(1, [0]) + [(PRESS, 0, 1), (SEND, 0), (ARRIVE, 0), (BEGINS, 2, 1, 6)]
        self.assertEqual(told(*line, (SEND, 0), (ARRIVE, 0))[3::3], [[1, 1, 1], [1, 0, 0]])


class Several(unittest.TestCase):
    def test_three_put_right(self):
        line = [(BEGINS, 3, 1, 6)] + presses(0, [1]) + presses(1, [2, 2]) + presses(2, [3, 3, 3])
        line += [(SEND, 0), (SEND, 1), (SEND, 2)] + [(ARRIVE, 0)] * 6 + [(SHOWN, 0), (SHOWN, 1), (SHOWN, 2)]
        self.assertEqual(told(*line)[-3:], [
            [1, 1, 0, 0, 2, 3, 0, 3, 4, 0, 4, 1],
            [2, 2, 0, 0, 2, 4, 0, 3, 4, 0, 4, 1],
            [3, 3, 0, 0, 2, 5, 0, 2, 4, 0, 4, 1],
        ])

    def test_four_know_all_and_show_the_same(self):
        line = [(BEGINS, 4, 1, 6)]
        for machine, keys in enumerate([[1, 2], [2, 2], [3, 4], [4, 1]]):
            line += presses(machine, keys) + [(SEND, machine)]
        line += [(ARRIVE, 0)] * 12 + [(SHOWN, machine) for machine in range(4)]
        given = told(*line)
        shown = [2, 1, 1, 0, 2, 4, 0, 3, 3, 0, 7, 5, 0, 4, 1]
        self.assertEqual(given[-4:], [shown] * 4)
        self.assertEqual([answer[:2] for answer in given[-16:-4]], [
            [1, 0], [2, 0], [3, 0], [0, 0], [2, 0], [3, 0], [0, 0], [1, 0], [3, 2], [0, 2], [1, 2], [2, 2]])

    def test_sure_needs_every_player(self):
        line = [(BEGINS, 3, 1, 6)] + presses(0, [0, 0, 0]) + presses(1, [0, 0]) + presses(2, [0])
        line += [(SEND, 1), (ARRIVE, 0), (SEND, 2), (ARRIVE, 1)]
        self.assertEqual(told(*line)[8:11:2], [[0, 0, 0], [0, 1, 0]])

    def test_one_player_alone_is_always_sure(self):
        line = [(BEGINS, 1, 1, 1)] + presses(0, [1] * 39)
        self.assertEqual(last(*line), [39, 7, 0, 0, 4, 1])


if __name__ == "__main__":
    unittest.main()
