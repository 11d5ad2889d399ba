"""Lines of calls written call by call, and their answers taken apart again."""

from badnet.game import Game
from badnet.several import answers

BEGINS, PRESS, SEND, ARRIVE, TWICE, LOSE, SHOWN, SURE, NET, AGREE, HEAL, MACHINE, AT = range(13)
MOST = 4294967295
# The world before any tick, by how many players there are.
BEGUN = {
    1: [0, 0, 0, 4, 1],
    2: [0, 0, 0, 2, 2, 0, 4, 1],
    3: [0, 0, 0, 2, 2, 0, 4, 4, 0, 4, 1],
    4: [0, 0, 0, 2, 2, 0, 4, 4, 0, 6, 6, 0, 4, 1],
}


def flat(calls):
    return [number for call in calls for number in call]


def told(*calls):
    """The answers to one line, a list for each call."""
    given = answers(flat(calls))
    apart = []
    place = 0
    while place < len(given):
        behind = place + 1 + given[place]
        apart.append(given[place + 1:behind])
        place = behind
    assert place == len(given), "the last count does not fit"
    assert len(apart) == len(calls), "not one answer for each call"
    return apart


def last(*calls):
    return told(*calls)[-1]


def presses(machine, keys):
    return [(PRESS, machine, key) for key in keys]


def full_game():
    """Two players, 40 letters on their way."""
    game = Game()
    for times in range(40):
        game.send(0)
    return game
