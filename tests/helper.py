"""Lines of calls written call by call, and their answers taken apart again."""

from badnet.several import answers

BEGINS, PRESS, SEND, ARRIVE, TWICE, LOSE, SHOWN = range(7)
MOST = 4294967295


def flat(calls):
    return [number for call in calls for number in call]


def told(*calls):
    """The answers to one line, a list for each call."""
    given = answers(flat(calls))
    apart = []
    place = 0
    while place < len(given):
        behind = place + 1 + given[place]
        apart.append(given[place + 1:behind])
        place = behind
    assert place == len(given), "the last count does not fit"
    assert len(apart) == len(calls), "not one answer for each call"
    return apart


def last(*calls):
    return told(*calls)[-1]


def presses(machine, keys):
    return [(PRESS, machine, key) for key in keys]
