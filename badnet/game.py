"""Some machines, the net between them, and the calls about both."""

from badnet.machine import Machine

MOST_PLAYERS = 4
MOST_AHEAD = 20
MOST_KEY = 4
MOST_SHOWN = 60
MOST_LETTERS = 40


class Game:
    """Each call answers a list of numbers; a refusal is one number below 0 alone."""

    def __init__(self):
        self.start(2, 1, 6)

    def start(self, players, seed, ahead):
        self.machines = [Machine(number, players, seed) for number in range(players)]
        self.letters = []
        self.ahead = ahead

    def has_machine(self, machine):
        return machine < len(self.machines)

    def has_letter(self, letter):
        return letter < len(self.letters)

    def letters_of(self, machine):
        """What that machine would write now to each other one, in order."""
        others = [other for other in range(len(self.machines)) if other != machine]
        return [self.machines[machine].letter_to(other) for other in others]

    def let_all_come(self):
        for letter in self.letters:
            self.machines[letter.receiver].receive(letter)
        self.letters = []

    def sure_everywhere(self):
        return min([machine.sure() for machine in self.machines])

    def begins(self, players, seed, ahead):
        if not 1 <= players <= MOST_PLAYERS or not 1 <= ahead <= MOST_AHEAD:
            return [-1]
        self.start(players, seed, ahead)
        return self.machines[0].world_behind(0).numbers()

    def press(self, machine, key):
        if key > MOST_KEY:
            return [-1]
        if not self.has_machine(machine):
            return [-2]
        presser = self.machines[machine]
        if presser.shown() >= MOST_SHOWN:
            return [-5]
        if presser.shown() - presser.sure() >= self.ahead:
            return [-6]
        presser.press(key)
        return self.shown(machine)

    def send(self, machine):
        if not self.has_machine(machine):
            return [-2]
        written = self.letters_of(machine)
        if len(self.letters) + len(written) > MOST_LETTERS:
            return [-5]
        self.letters.extend(written)
        answer = [len(written)]
        for letter in written:
            answer.extend([letter.receiver, letter.first, len(letter.pressed)])
        return answer

    def arrive(self, letter):
        if not self.has_letter(letter):
            return [-2]
        coming = self.letters.pop(letter)
        receiver = self.machines[coming.receiver]
        receiver.receive(coming)
        return [receiver.number, receiver.sure(), receiver.again]

    def twice(self, letter):
        if not self.has_letter(letter):
            return [-2]
        if len(self.letters) >= MOST_LETTERS:
            return [-5]
        self.letters.append(self.letters[letter])
        return [len(self.letters)]

    def lose(self, letter):
        if not self.has_letter(letter):
            return [-2]
        self.letters.pop(letter)
        return [len(self.letters)]

    def shown(self, machine):
        if not self.has_machine(machine):
            return [-2]
        shower = self.machines[machine]
        return [shower.shown()] + shower.world_behind(shower.shown()).numbers()

    def sure(self, machine):
        if not self.has_machine(machine):
            return [-2]
        asked = self.machines[machine]
        return [asked.sure()] + asked.world_behind(asked.sure()).numbers()

    def net(self):
        answer = [len(self.letters)]
        for letter in self.letters:
            answer.extend([letter.sender, letter.receiver, letter.first, len(letter.pressed), letter.told])
        return answer

    def agree(self):
        ticks = self.sure_everywhere()
        return [ticks] + [machine.world_behind(ticks).world_sum() for machine in self.machines]

    def heal(self):
        self.let_all_come()
        # All are written before the first one comes: none tells yet of what another one brings.
        for machine in range(len(self.machines)):
            self.letters.extend(self.letters_of(machine))
        self.let_all_come()
        return [self.sure_everywhere()] + [machine.again for machine in self.machines]

    def machine(self, machine):
        if not self.has_machine(machine):
            return [-2]
        asked = self.machines[machine]
        counts = [len(pressed) for pressed in asked.known]
        return [asked.shown(), asked.sure(), asked.again] + counts + asked.there

    def at(self, machine, ticks):
        if not self.has_machine(machine):
            return [-2]
        asked = self.machines[machine]
        if ticks > asked.shown():
            return [-2]
        is_sure = 1 if ticks <= asked.sure() else 0
        return [is_sure] + asked.world_behind(ticks).numbers()
