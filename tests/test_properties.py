"""Many lines drawn from a fixed seed: what holds of each of them, whatever comes."""

import random
import unittest

from badnet.game import Game
from tests.helper import flat, told


def plain_world(players, seed, rows):
    """The world written down once more, with a dict of places and one row of keys a tick."""
    at = {player: [2 * player, 2 * player] for player in range(players)}
    points = [0] * players
    coin, luck = [4, 1], seed
    for row in rows:
        for player in range(players):
            x, y = at[player]
            if row[player] in (1, 3):
                x = (x + 2 - row[player]) % 8
            elif row[player] in (2, 4):
                y = (y + 3 - row[player]) % 8
            if [x, y] in at.values():
                continue
            at[player] = [x, y]
            if coin == [x, y]:
                points[player] += 1
                a = (luck * 1103515245 + 12345) & 0x7FFFFFFF
                luck = (a * 1103515245 + 12345) & 0x7FFFFFFF
                coin = [a >> 16 & 7, luck >> 16 & 7]
    return flat(at[player] + [points[player]] for player in range(players)) + coin


class Plain:
    """The calls once more: keys pressed are kept once, machines keep only how many they know."""

    def __init__(self):
        self.begin(2, 1, 6)

    def begin(self, players, seed, ahead):
        self.n, self.seed, self.ahead = players, seed, ahead
        self.pressed = [""] * players
        self.knows = [[0] * players for each in range(players)]
        self.acked = [[0] * players for each in range(players)]
        self.again = [0] * players
        self.way = []

    def rows(self, m):
        columns = []
        for player in range(self.n):
            known = self.pressed[player][:self.knows[m][player]]
            columns.append([int(sign) for sign in known.ljust(60, (known or "0")[-1])])
        return list(zip(*columns))[:len(self.pressed[m])]

    def call(self, number, *args):
        if number == 0:
            if args[0] not in range(1, 5) or args[2] not in range(1, 21):
                return [-1]
            self.begin(*args)
            return plain_world(self.n, self.seed, [])
        if number in (3, 4, 5):
            return self.on_letter(number, args[0])
        return self.on_machine(number, *args)

    def on_letter(self, number, letter):
        if letter >= len(self.way):
            return [-2]
        if number == 4:
            if len(self.way) == 40:
                return [-5]
            self.way.append(self.way[letter])
            return [len(self.way)]
        sender, receiver, upto, tells = self.way[letter]
        self.way = self.way[:letter] + self.way[letter + 1:]
        if number == 5:
            return [len(self.way)]
        old = self.rows(receiver)
        self.knows[receiver][sender] = max(self.knows[receiver][sender], upto)
        self.acked[receiver][sender] = max(self.acked[receiver][sender], tells)
        new = self.rows(receiver)
        self.again[receiver] += max([len(old) - t for t in range(len(old)) if old[t] != new[t]], default=0)
        return [receiver, min(self.knows[receiver]), self.again[receiver]]

    def on_machine(self, number, m, key=0):
        if key > 4:
            return [-1]
        if m >= self.n:
            return [-2]
        if number == 2:
            return self.write(m)
        if number == 1:
            if len(self.pressed[m]) == 60:
                return [-5]
            if len(self.pressed[m]) - min(self.knows[m]) == self.ahead:
                return [-6]
            self.pressed[m] += str(key)
            self.knows[m][m] += 1
        return [len(self.pressed[m])] + plain_world(self.n, self.seed, self.rows(m))

    def write(self, m):
        if len(self.way) + self.n - 1 > 40:
            return [-5]
        upto = len(self.pressed[m])
        answer = [self.n - 1]
        for other in range(self.n):
            if other != m:
                self.way.append((m, other, upto, self.knows[m][other]))
                answer += [other, self.acked[m][other], upto - self.acked[m][other]]
        return answer


def drawn_line(draw):
    """Machines and letters are mostly there, so that few calls of a line are refused."""
    players = draw.randint(1, 4)
    line = [(0, players, draw.randrange(1 << 32), draw.choice([1, 2, 6, 20]))]
    weights = [0.2, 10, 6, 8, draw.choice([1, 6]), 2, 2]
    while len(line) < 40:
        number = draw.choices(range(7), weights)[0]
        machine = draw.randrange(players + (draw.random() < 0.2))
        if number == 0:
            line.append((0, draw.randrange(6), draw.randrange(1 << 32), draw.randrange(23)))
        elif number == 1:
            line.append((1, machine, draw.choice([0, 1, 1, 1, 2, 2, 2, 3, 4, 5])))
        else:
            line.append((number, draw.choice([0, 0, 1, 2, 4, 9]) if number in (3, 4, 5) else machine))
    return line


class Lines(unittest.TestCase):
    def test_as_written_down_once_more(self):
        draw = random.Random(11)
        for times in range(1500):
            line = drawn_line(draw)
            plain = Plain()
            self.assertEqual(told(*line), [plain.call(*call) for call in line], line)

    def test_what_is_known_is_what_was_pressed_and_sure_stays(self):
        draw = random.Random(12)
        for times in range(60):
            players = draw.randint(1, 4)
            game = Game()
            game.begins(players, times, draw.choice([2, 6, 20]))
            pressed = [[] for player in range(players)]
            sure_worlds = []
            for step in range(200):
                self.one_step(draw, game, pressed)
                self.check(game, pressed, sure_worlds)

    def one_step(self, draw, game, pressed):
        number = draw.choice([1, 1, 1, 2, 3, 3, 3, 4, 5])
        which = draw.randrange(len(pressed))
        if number == 1:
            key = draw.randrange(5)
            if game.press(which, key)[0] > 0:
                pressed[which].append(key)
        elif number == 2:
            game.send(which)
        else:
            call = {3: game.arrive, 4: game.twice, 5: game.lose}[number]
            call(draw.randrange(8))

    def check(self, game, pressed, sure_worlds):
        """sure_worlds holds the world behind each tick that was ever sure somewhere."""
        for machine in game.machines:
            for player, keys in enumerate(machine.known):
                self.assertEqual(keys, pressed[player][:len(keys)])
            self.assertLessEqual(machine.shown() - machine.sure(), game.ahead)
            for ticks in range(machine.sure() + 1):
                world = machine.world_behind(ticks).numbers()
                if ticks == len(sure_worlds):
                    sure_worlds.append(world)
                self.assertEqual(world, sure_worlds[ticks])


if __name__ == "__main__":
    unittest.main()
