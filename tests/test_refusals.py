import copy
import unittest

from badnet.game import Game
from tests.helper import (
    ARRIVE, AT, BEGINS, BEGUN, LOSE, MACHINE, MOST, NET, PRESS, SEND, SHOWN, SURE, TWICE, full_game, last, presses,
    told)

FIRST = [0] + BEGUN[2]


def state(thing):
    """All that an object holds, as plain values."""
    if isinstance(thing, list):
        return [state(part) for part in thing]
    if hasattr(thing, "__dict__"):
        return {name: state(part) for name, part in vars(thing).items()}
    return copy.deepcopy(thing)


def played(rounds, ahead):
    """Two players who have shown so many ticks, all of them sure on machine 0."""
    game = Game()
    game.begins(2, 1, ahead)
    for times in range(rounds):
        game.press(0, 1)
        game.press(1, 2)
        game.send(0)
        game.send(1)
        game.arrive(0)
        game.arrive(0)
    return game


class Begins(unittest.TestCase):
    def test_players(self):
        answers = [last((BEGINS, players, 1, 6)) for players in [0, 1, 4, 5, MOST]]
        self.assertEqual([len(answer) for answer in answers], [1, 5, 14, 1, 1])
        self.assertEqual([answers[0], answers[3], answers[4]], [[-1]] * 3)

    def test_ahead(self):
        answers = [last((BEGINS, 1, 1, ahead)) for ahead in [0, 1, 20, 21, MOST]]
        begun = [0, 0, 0, 4, 1]
        self.assertEqual(answers, [[-1], begun, begun, [-1], [-1]])

    def test_both(self):
        self.assertEqual(last((BEGINS, 0, MOST, 0)), [-1])
        self.assertEqual(last((BEGINS, MOST, MOST, MOST)), [-1])

    def test_any_seed(self):
        self.assertEqual([last((BEGINS, 1, seed, 1)) for seed in [0, MOST]], [[0, 0, 0, 4, 1]] * 2)


class Press(unittest.TestCase):
    def test_key(self):
        self.assertEqual(last((PRESS, 0, 4)), [1, 0, 7, 0, 2, 2, 0, 4, 1])
        self.assertEqual(last((PRESS, 0, 5)), [-1])
        self.assertEqual(last((PRESS, 0, MOST)), [-1])

    def test_machine(self):
        self.assertEqual(last((PRESS, 1, 4)), [1, 0, 0, 0, 2, 1, 0, 4, 1])
        self.assertEqual(last((PRESS, 2, 4)), [-2])
        self.assertEqual(last((PRESS, MOST, 0)), [-2])
        self.assertEqual(last((BEGINS, 1, 1, 1), (PRESS, 1, 0)), [-2])
        self.assertEqual(last((BEGINS, 4, 1, 1), (PRESS, 3, 0))[0], 1)
        self.assertEqual(last((BEGINS, 4, 1, 1), (PRESS, 4, 0)), [-2])

    def test_key_is_told_before_machine(self):
        self.assertEqual(last((PRESS, 2, 5)), [-1])

    def test_ahead(self):
        for ahead in [1, 2, 19, 20]:
            given = told((BEGINS, 2, 1, ahead), *presses(0, [0] * (ahead + 2)))
            self.assertEqual([answer[0] for answer in given[1:]], list(range(1, ahead + 1)) + [-6, -6])

    def test_ahead_of_what_is_sure(self):
        line = [(BEGINS, 2, 1, 2), (PRESS, 0, 0), (PRESS, 0, 0), (PRESS, 1, 0), (SEND, 1), (PRESS, 0, 0)]
        given = told(*line, (ARRIVE, 0), (PRESS, 0, 0), (PRESS, 0, 0))
        self.assertEqual([answer[0] for answer in given[5:]], [-6, 0, 3, -6])

    def test_the_slowest_of_three_holds_all(self):
        line = [(BEGINS, 3, 1, 1), (PRESS, 0, 0), (PRESS, 1, 0), (SEND, 1), (ARRIVE, 0), (PRESS, 0, 0)]
        given = told(*line, (PRESS, 2, 0), (SEND, 2), (ARRIVE, 1), (PRESS, 0, 0))
        self.assertEqual([given[5], given[8], given[9][0]], [[-6], [0, 1, 0], 2])

    def test_machine_and_key_are_told_before_ahead(self):
        line = [(BEGINS, 2, 1, 1), (PRESS, 0, 0)]
        self.assertEqual(last(*line, (PRESS, 0, 0)), [-6])
        self.assertEqual(last(*line, (PRESS, 0, 5)), [-1])
        self.assertEqual(last(*line, (PRESS, 2, 0)), [-2])

    def test_sixty_shown(self):
        game = Game()
        game.begins(1, 1, 1)
        answers = [game.press(0, 0)[0] for times in range(62)]
        self.assertEqual(answers, list(range(1, 61)) + [-5, -5])
        self.assertEqual(game.press(0, 5), [-1])
        self.assertEqual(game.press(1, 0), [-2])
        self.assertEqual(game.shown(0), [60, 0, 0, 0, 4, 1])

    def test_sixty_shown_is_told_before_ahead(self):
        game = played(40, 20)
        self.assertEqual([game.press(0, 0)[0] for times in range(21)], list(range(41, 61)) + [-5])
        game = played(39, 20)
        self.assertEqual([game.press(0, 0)[0] for times in range(21)], list(range(40, 60)) + [-6])

    def test_sixty_shown_on_one_machine_alone(self):
        game = played(59, 20)
        self.assertEqual(game.press(0, 0)[0], 60)
        self.assertEqual(game.press(0, 0), [-5])
        self.assertEqual(game.press(1, 0)[0], 60)
        self.assertEqual(game.press(1, 0), [-5])


class Send(unittest.TestCase):
    def test_machine(self):
        self.assertEqual([last((SEND, machine)) for machine in [1, 2, MOST]], [[1, 0, 0, 0], [-2], [-2]])
        self.assertEqual(told((BEGINS, 4, 1, 1), (SEND, 4), (SEND, 3))[1:], [[-2], [3, 0, 0, 0, 1, 0, 0, 2, 0, 0]])

    def test_forty_letters_of_three_players(self):
        given = told((BEGINS, 3, 1, 1), *[(SEND, 2)] * 21)
        self.assertEqual(given[1:], [[2, 0, 0, 0, 1, 0, 0]] * 20 + [[-5]])

    def test_forty_letters_of_four_players(self):
        given = told((BEGINS, 4, 1, 1), *[(SEND, 0)] * 13, (SEND, 0), (LOSE, 0), (LOSE, 0), (SEND, 0), (SEND, 0))
        self.assertEqual(given[14:17], [[-5], [38], [37]])
        self.assertEqual([answer[0] for answer in given[17:]], [3, -5])

    def test_forty_letters_of_two_players(self):
        game = full_game()
        self.assertEqual(len(game.letters), 40)
        self.assertEqual(game.send(0), [-5])
        self.assertEqual(game.send(1), [-5])
        game.lose(39)
        self.assertEqual(game.send(1), [1, 0, 0, 0])

    def test_machine_is_told_before_letters(self):
        self.assertEqual(full_game().send(2), [-2])


class Letters(unittest.TestCase):
    def test_none(self):
        for call in [ARRIVE, TWICE, LOSE]:
            for letter in [0, 1, MOST]:
                self.assertEqual(last((call, letter)), [-2])

    def test_the_last_and_the_one_behind_it(self):
        line = [(SEND, 0), (SEND, 1)]
        for call, answer in [(ARRIVE, [0, 0, 0]), (TWICE, [3]), (LOSE, [1])]:
            self.assertEqual(last(*line, (call, 1)), answer)
            self.assertEqual(last(*line, (call, 2)), [-2])
            self.assertEqual(last(*line, (call, MOST)), [-2])

    def test_twice_with_forty(self):
        line = [(BEGINS, 4, 1, 1)] + [(SEND, 0)] * 13
        self.assertEqual(told(*line, (TWICE, 38), (TWICE, 39), (TWICE, 40))[14:], [[40], [-5], [-2]])
        self.assertEqual(told(*line, (TWICE, 0), (TWICE, 0), (LOSE, 0), (TWICE, 0))[14:], [[40], [-5], [39], [40]])

    def test_with_forty_one_still_comes_or_is_lost(self):
        game = full_game()
        self.assertEqual(game.lose(0), [39])
        game = full_game()
        self.assertEqual(game.arrive(39), [1, 0, 0])


class Shown(unittest.TestCase):
    def test_machine(self):
        self.assertEqual([last((SHOWN, machine)) for machine in [0, 1, 2, MOST]], [FIRST, FIRST, [-2], [-2]])
        self.assertEqual(told((BEGINS, 1, 1, 1), (SHOWN, 0), (SHOWN, 1))[1:], [[0, 0, 0, 0, 4, 1], [-2]])


class Sure(unittest.TestCase):
    def test_machine(self):
        self.assertEqual([last((SURE, machine)) for machine in [0, 1, 2, MOST]], [FIRST, FIRST, [-2], [-2]])
        for players in BEGUN:
            given = told((BEGINS, players, 1, 1), (SURE, players - 1), (SURE, players), (SURE, MOST))
            self.assertEqual(given[1:], [[0] + BEGUN[players], [-2], [-2]])


class OfAMachine(unittest.TestCase):
    def test_machine(self):
        self.assertEqual([last((MACHINE, machine)) for machine in [0, 1, 2, MOST]], [[0] * 7, [0] * 7, [-2], [-2]])
        for players in BEGUN:
            given = told((BEGINS, players, 1, 1), (MACHINE, players - 1), (MACHINE, players), (MACHINE, MOST))
            self.assertEqual(given[1:], [[0] * (3 + 2 * players), [-2], [-2]])


class At(unittest.TestCase):
    def test_machine(self):
        begun = [1] + BEGUN[2]
        self.assertEqual([last((AT, machine, 0)) for machine in [0, 1, 2, MOST]], [begun, begun, [-2], [-2]])
        for players in BEGUN:
            given = told((BEGINS, players, 1, 1), (AT, players - 1, 0), (AT, players, 0), (AT, MOST, 0))
            self.assertEqual(given[1:], [[1] + BEGUN[players], [-2], [-2]])

    def test_ticks(self):
        given = told(*presses(0, [0, 0]), *[(AT, 0, ticks) for ticks in [2, 3, MOST]])
        self.assertEqual(given[2:], [FIRST, [-2], [-2]])

    def test_ticks_with_nothing_shown(self):
        self.assertEqual(told((AT, 0, 0), (AT, 0, 1), (AT, 0, MOST)), [[1] + BEGUN[2], [-2], [-2]])

    def test_ticks_shown_on_that_machine_not_on_another(self):
        given = told(*presses(0, [0, 0]), (PRESS, 1, 0), (AT, 1, 1), (AT, 1, 2))
        self.assertEqual(given[3:], [FIRST, [-2]])

    def test_both(self):
        self.assertEqual(last((AT, 2, 1)), [-2])
        self.assertEqual(last((AT, MOST, MOST)), [-2])

    def test_sixty_ticks(self):
        game = played(60, 20)
        self.assertEqual(game.at(0, 60), [1] + game.sure(0)[1:])
        self.assertEqual(game.at(0, 61), [-2])


class AsItWas(unittest.TestCase):
    def check(self, game, refused, call, *numbers):
        before = state(game)
        self.assertEqual(getattr(game, call)(*numbers), [refused])
        self.assertEqual(state(game), before)

    def test_of_each_call(self):
        game = played(3, 2)
        game.press(0, 1)
        game.press(0, 1)
        game.send(0)
        for players, ahead in [(0, 1), (5, 1), (1, 0), (1, 21), (MOST, MOST)]:
            self.check(game, -1, "begins", players, 1, ahead)
        self.check(game, -1, "press", 0, 5)
        self.check(game, -2, "press", 2, 0)
        self.check(game, -6, "press", 0, 0)
        self.check(game, -2, "send", 2)
        for machine in [2, MOST]:
            self.check(game, -2, "shown", machine)
            self.check(game, -2, "sure", machine)
            self.check(game, -2, "machine", machine)
            self.check(game, -2, "at", machine, 0)
        self.check(game, -2, "at", 0, 6)
        self.check(game, -2, "at", 1, MOST)
        for call in ["arrive", "twice", "lose"]:
            self.check(game, -2, call, 1)

    def test_of_too_many(self):
        self.check(full_game(), -5, "send", 1)
        self.check(full_game(), -5, "twice", 0)
        self.check(played(60, 20), -5, "press", 0, 1)

    def test_asking_changes_nothing(self):
        game = played(3, 2)
        game.press(0, 1)
        game.send(0)
        before = state(game)
        for answer in [game.shown(0), game.sure(0), game.net(), game.agree(), game.machine(1), game.at(0, 4)]:
            answer.append(99)
            self.assertEqual(state(game), before)

    def test_a_line_goes_on_as_without_them(self):
        refused = [
            (BEGINS, 5, 9, 9), (PRESS, 0, 5), (PRESS, 9, 1), (SEND, 7), (ARRIVE, 8), (TWICE, 8), (LOSE, 8), (SHOWN, 3),
            (SURE, 3), (MACHINE, 3), (AT, 3, 0), (AT, 2, 2)]
        line = [
            (BEGINS, 3, 3, 2), (PRESS, 0, 1), (PRESS, 1, 2), (SEND, 0), (PRESS, 2, 4), (ARRIVE, 1),
            (SEND, 1), (SHOWN, 2), (SURE, 2), (MACHINE, 2), (AT, 2, 1), (NET,)]
        mixed = [call for pair in zip(line, refused) for call in pair]
        given = told(*mixed)
        self.assertEqual(given[0::2], told(*line))
        self.assertEqual(given[1::2], [[-1], [-1]] + [[-2]] * 10)


if __name__ == "__main__":
    unittest.main()
