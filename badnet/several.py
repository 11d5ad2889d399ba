"""A line of calls, handed in as one list of numbers and answered as one."""

from badnet.game import Game

# How many numbers stand behind the number of each call, from begins (0) on.
ARGUMENTS = (3, 2, 1, 1, 1, 1, 1, 1, 0, 0, 0, 1, 2)


def answer_to(game, call, numbers):
    if call == 0:
        return game.begins(numbers[0], numbers[1], numbers[2])
    if call == 1:
        return game.press(numbers[0], numbers[1])
    if call == 2:
        return game.send(numbers[0])
    if call == 3:
        return game.arrive(numbers[0])
    if call == 4:
        return game.twice(numbers[0])
    if call == 5:
        return game.lose(numbers[0])
    if call == 6:
        return game.shown(numbers[0])
    if call == 7:
        return game.sure(numbers[0])
    if call == 8:
        return game.net()
    if call == 9:
        return game.agree()
    if call == 10:
        return game.heal()
    if call == 11:
        return game.machine(numbers[0])
    return game.at(numbers[0], numbers[1])


def answers(calls):
    """For each call how many numbers are answered, then these."""
    game = Game()
    told = []
    place = 0
    while place < len(calls):
        call = calls[place]
        behind = place + 1 + ARGUMENTS[call]
        answer = answer_to(game, call, calls[place + 1:behind])
        told.append(len(answer))
        told.extend(answer)
        place = behind
    return told
