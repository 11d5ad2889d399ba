"""Many lines drawn from a fixed seed: what holds of each of them, whatever comes."""

import random
import unittest

from badnet.game import Game
from badnet.several import answers
from tests.helper import MOST, flat, told


def plain_world(players, seed, rows):
    """The world written down once more, with one row of keys a tick; its luck stands last."""
    at = {player: [2 * player, 2 * player] for player in range(players)}
    points = [0] * players
    coin, luck = [4, 1], seed & 0x7FFFFFFF
    for row in rows:
        for player in range(players):
            x, y = at[player]
            if row[player] in (1, 3):
                x = (x + 2 - row[player]) % 8
            elif row[player] in (2, 4):
                y = (y + 3 - row[player]) % 8
            if [x, y] in at.values():
                continue
            at[player] = [x, y]
            if coin == [x, y]:
                points[player] += 1
                a = (luck * 1103515245 + 12345) & 0x7FFFFFFF
                luck = (a * 1103515245 + 12345) & 0x7FFFFFFF
                coin = [a >> 16 & 7, luck >> 16 & 7]
    return flat(at[player] + [points[player]] for player in range(players)) + coin + [luck]


def plain_sum(numbers):
    """All at once: the rest is taken of one long number."""
    powers = [31 ** power for power in range(len(numbers), -1, -1)]
    return sum(power * (number + 1) for power, number in zip(powers, [6] + numbers)) % 1000000007


class Plain:
    """The calls once more: keys pressed are kept once, machines keep only how many they know."""

    def __init__(self):
        self.begin(2, 1, 6)

    def begin(self, players, seed, ahead):
        self.n, self.seed, self.ahead = players, seed, ahead
        self.pressed = [""] * players
        self.knows = [[0] * players for each in range(players)]
        self.acked = [[0] * players for each in range(players)]
        self.again = [0] * players
        self.way = []

    def rows(self, m):
        columns = []
        for player in range(self.n):
            known = self.pressed[player][:self.knows[m][player]]
            columns.append([int(sign) for sign in known.ljust(60, (known or "0")[-1])])
        return list(zip(*columns))[:len(self.pressed[m])]

    def world(self, m, ticks):
        return plain_world(self.n, self.seed, self.rows(m)[:ticks])

    def call(self, number, *args):
        if number == 0:
            if args[0] not in range(1, 5) or args[2] not in range(1, 21):
                return [-1]
            self.begin(*args)
            return self.world(0, 0)[:-1]
        if number in (3, 4, 5):
            return self.on_letter(number, args[0])
        if number in (8, 9, 10):
            return self.on_all(number)
        return self.on_machine(number, *args)

    def on_letter(self, number, letter):
        if letter >= len(self.way):
            return [-2]
        if number == 4:
            if len(self.way) == 40:
                return [-5]
            self.way.append(self.way[letter])
            return [len(self.way)]
        coming = self.way[letter]
        self.way = self.way[:letter] + self.way[letter + 1:]
        if number == 5:
            return [len(self.way)]
        return self.come(coming)

    def come(self, coming):
        sender, receiver, first, upto, tells = coming
        old = self.rows(receiver)
        self.knows[receiver][sender] = max(self.knows[receiver][sender], upto)
        self.acked[receiver][sender] = max(self.acked[receiver][sender], tells)
        new = self.rows(receiver)
        self.again[receiver] += max([len(old) - t for t in range(len(old)) if old[t] != new[t]], default=0)
        return [receiver, min(self.knows[receiver]), self.again[receiver]]

    def on_all(self, number):
        if number == 8:
            return [len(self.way)] + flat((s, r, first, upto - first, t) for s, r, first, upto, t in self.way)
        if number == 10:
            for coming in self.way:
                self.come(coming)
            for coming in flat(self.written(m) for m in range(self.n)):
                self.come(coming)
            self.way = []
        ticks = min(flat(self.knows))
        if number == 10:
            return [ticks] + self.again
        return [ticks] + [plain_sum(self.world(m, ticks)) for m in range(self.n)]

    def on_machine(self, number, m, more=0):
        if number == 1 and more > 4:
            return [-1]
        if m >= self.n or number == 12 and more > len(self.pressed[m]):
            return [-2]
        shown, sure = len(self.pressed[m]), min(self.knows[m])
        if number == 1:
            return self.press(m, more, shown, sure)
        if number == 2:
            return self.write(m)
        if number == 11:
            return [shown, sure, self.again[m]] + self.knows[m] + self.acked[m]
        if number == 12:
            return [int(more <= sure)] + self.world(m, more)[:-1]
        ticks = shown if number == 6 else sure
        return [ticks] + self.world(m, ticks)[:-1]

    def press(self, m, key, shown, sure):
        if shown == 60:
            return [-5]
        if shown - sure == self.ahead:
            return [-6]
        self.pressed[m] += str(key)
        self.knows[m][m] += 1
        return [shown + 1] + self.world(m, shown + 1)[:-1]

    def written(self, m):
        upto = len(self.pressed[m])
        return [(m, other, self.acked[m][other], upto, self.knows[m][other]) for other in range(self.n) if other != m]

    def write(self, m):
        if len(self.way) + self.n - 1 > 40:
            return [-5]
        self.way += self.written(m)
        return [self.n - 1] + flat((r, first, upto - first) for s, r, first, upto, t in self.written(m))


# How often each call is drawn, from begins on: in some lines letters pile up, in others much is healed.
WEIGHTS = (
    (0.2, 10, 6, 8, 1, 2, 2, 2, 1, 1, 0.4, 2, 2),
    (0.2, 10, 6, 8, 6, 2, 2, 2, 1, 1, 0.4, 2, 2),
    (0.1, 4, 14, 1, 4, 0.5, 1, 1, 1, 1, 0.2, 1, 1),
    (0.1, 14, 3, 2, 1, 1, 1, 1, 1, 1, 3, 1, 1),
)


def drawn_call(draw, number, players):
    """Machines and letters are mostly there, so that few calls of a line are refused."""
    machine = draw.randrange(players) if draw.random() < 0.9 else draw.choice([players, 4, MOST])
    if number == 0:
        return (0, draw.randrange(6), draw.randrange(1 << 32), draw.randrange(23))
    if number == 1:
        return (1, machine, draw.choice([0, 1, 1, 1, 2, 2, 2, 3, 4, 5]))
    if number in (3, 4, 5):
        return (number, draw.choice([0, 0, 1, 2, 4, 9, 39, 40, MOST] if draw.random() < 0.3 else [0, 0, 1, 2, 4]))
    if number in (8, 9, 10):
        return (number,)
    if number == 12:
        return (12, machine, draw.choice([0, 1, 1, 2, 2, 3, 4, 6, 8, 12, MOST]))
    return (number, machine)


def drawn_line(draw, length):
    players = draw.choice([1, 2, 2, 3, 3, 4, 4])
    line = [(0, players, draw.randrange(1 << 32), draw.choice([1, 2, 6, 20]))]
    if draw.random() < 0.2:
        # Without begins at its head the line is about what is there at its beginning.
        players, line = 2, []
    weights = draw.choice(WEIGHTS)
    while len(line) < length:
        line.append(drawn_call(draw, draw.choices(range(13), weights)[0], players))
    return line


class Lines(unittest.TestCase):
    def hold_against_plain(self, line):
        plain = Plain()
        expected = [plain.call(*call) for call in line]
        self.assertEqual(told(*line), expected, line)
        return expected

    def test_as_written_down_once_more(self):
        draw = random.Random(11)
        seen = set()
        for times in range(1500):
            line = drawn_line(draw, 40)
            for call, answer in zip(line, self.hold_against_plain(line)):
                seen.add((call[0], min(answer[0], 0)))
        refusals = [(0, -1), (1, -1), (1, -2), (1, -6), (2, -2), (2, -5), (3, -2), (4, -2), (4, -5), (5, -2)]
        refusals += [(number, -2) for number in (6, 7, 11, 12)]
        # So that no call and no refusal goes undrawn; 60 ticks are not shown in a line of 40 calls.
        self.assertEqual(seen, {(number, 0) for number in range(13)} | set(refusals))

    def test_longer_than_a_line_may_be(self):
        draw = random.Random(13)
        for times in range(40):
            self.hold_against_plain(drawn_line(draw, 500))

    def test_what_is_handed_in_stays_and_a_second_time_gives_the_same(self):
        draw = random.Random(14)
        for times in range(200):
            handed = flat(drawn_line(draw, 40))
            kept = list(handed)
            first = answers(handed)
            self.assertEqual(handed, kept)
            self.assertEqual(answers(handed), first)

    def test_what_is_known_is_what_was_pressed_and_sure_stays(self):
        draw = random.Random(12)
        for times in range(60):
            players = draw.randint(1, 4)
            game = Game()
            game.begins(players, times, draw.choice([2, 6, 20]))
            pressed = [[] for player in range(players)]
            sure_worlds = []
            for step in range(200):
                self.one_step(draw, game, pressed)
                self.check(game, pressed, sure_worlds)

    def one_step(self, draw, game, pressed):
        number = draw.choice([1, 1, 1, 2, 3, 3, 3, 4, 5] * 4 + [10])
        which = draw.randrange(len(pressed))
        if number == 1:
            key = draw.randrange(5)
            if game.press(which, key)[0] > 0:
                pressed[which].append(key)
        elif number == 2:
            game.send(which)
        elif number == 10:
            game.heal()
            self.check_healed(game, pressed)
        else:
            call = {3: game.arrive, 4: game.twice, 5: game.lose}[number]
            call(draw.randrange(8))

    def check(self, game, pressed, sure_worlds):
        """sure_worlds holds the world behind each tick that was ever sure somewhere."""
        for number, machine in enumerate(game.machines):
            for player, keys in enumerate(machine.known):
                self.assertEqual(keys, pressed[player][:len(keys)])
            shown, sure = game.machine(number)[:2]
            self.assertLessEqual(shown - sure, game.ahead)
            for ticks in range(sure + 1):
                answer = game.at(number, ticks)
                if ticks == len(sure_worlds):
                    sure_worlds.append(answer[1:])
                self.assertEqual(answer, [1] + sure_worlds[ticks])
            self.assertEqual(game.sure(number), [sure] + sure_worlds[sure])
        self.assertEqual(len(set(game.agree()[1:])), 1)

    def check_healed(self, game, pressed):
        """All know all; and all show the same, as far as they have shown."""
        self.assertEqual(game.net(), [0])
        shown = [len(keys) for keys in pressed]
        for number, machine in enumerate(game.machines):
            self.assertEqual(machine.known, pressed)
            self.assertEqual(game.machine(number)[:2], [len(pressed[number]), min(shown)])
            longest = shown.index(max(shown))
            for ticks in range(shown[number] + 1):
                self.assertEqual(game.at(number, ticks), game.at(longest, ticks))


if __name__ == "__main__":
    unittest.main()
