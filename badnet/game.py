"""Some machines, the net between them, and the calls about both."""

from badnet.machine import Machine

MOST_PLAYERS = 4
MOST_AHEAD = 20
MOST_KEY = 4
MOST_SHOWN = 60
MOST_LETTERS = 40


class Game:
    """Each call answers a list of numbers; a refusal is one number below 0 alone."""

    def __init__(self):
        self.start(2, 1, 6)

    def start(self, players, seed, ahead):
        self.machines = [Machine(number, players, seed) for number in range(players)]
        self.letters = []
        self.ahead = ahead

    def has_machine(self, machine):
        return machine < len(self.machines)

    def has_letter(self, letter):
        return letter < len(self.letters)

    def begins(self, players, seed, ahead):
        if not 1 <= players <= MOST_PLAYERS or not 1 <= ahead <= MOST_AHEAD:
            return [-1]
        self.start(players, seed, ahead)
        return self.machines[0].world_behind(0).numbers()

    def press(self, machine, key):
        if key > MOST_KEY:
            return [-1]
        if not self.has_machine(machine):
            return [-2]
        presser = self.machines[machine]
        if presser.shown() >= MOST_SHOWN:
            return [-5]
        if presser.shown() - presser.sure() >= self.ahead:
            return [-6]
        presser.press(key)
        return self.shown(machine)

    def send(self, machine):
        if not self.has_machine(machine):
            return [-2]
        others = [other for other in range(len(self.machines)) if other != machine]
        if len(self.letters) + len(others) > MOST_LETTERS:
            return [-5]
        answer = [len(others)]
        for other in others:
            letter = self.machines[machine].letter_to(other)
            self.letters.append(letter)
            answer.extend([other, letter.first, len(letter.pressed)])
        return answer

    def arrive(self, letter):
        if not self.has_letter(letter):
            return [-2]
        coming = self.letters.pop(letter)
        receiver = self.machines[coming.receiver]
        receiver.receive(coming)
        return [receiver.number, receiver.sure(), receiver.again]

    def twice(self, letter):
        if not self.has_letter(letter):
            return [-2]
        if len(self.letters) >= MOST_LETTERS:
            return [-5]
        self.letters.append(self.letters[letter])
        return [len(self.letters)]

    def lose(self, letter):
        if not self.has_letter(letter):
            return [-2]
        self.letters.pop(letter)
        return [len(self.letters)]

    def shown(self, machine):
        if not self.has_machine(machine):
            return [-2]
        shower = self.machines[machine]
        return [shower.shown()] + shower.world_behind(shower.shown()).numbers()
