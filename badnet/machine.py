"""One player's machine, and the letters that machines write to one another."""

from badnet.world import World


def first_difference(before, after):
    """The first index at which two lists of one length differ; their length if none."""
    for index in range(len(before)):
        if before[index] != after[index]:
            return index
    return len(before)


class Letter:
    """What was written once; it is never changed, so two may be one object."""

    def __init__(self, sender, receiver, first, pressed, told):
        self.sender = sender
        self.receiver = receiver
        self.first = first
        self.pressed = pressed
        self.told = told


class Machine:
    """What the machine of one player knows, guesses and has shown."""

    def __init__(self, number, players, seed):
        self.number = number
        self.seed = seed
        self.known = [[] for player in range(players)]
        self.there = [0] * players
        self.again = 0

    def shown(self):
        # A key of its own is known as soon as its tick is shown, and no sooner.
        return len(self.known[self.number])

    def sure(self):
        return min([len(pressed) for pressed in self.known])

    def press(self, key):
        self.known[self.number].append(key)

    def taken(self, player, tick):
        pressed = self.known[player]
        if tick < len(pressed):
            return pressed[tick]
        if len(pressed) > 0:
            return pressed[len(pressed) - 1]
        return 0

    def world_behind(self, ticks):
        """Made from the beginning each time: what is taken may have changed since."""
        players = len(self.known)
        world = World(players, self.seed)
        for tick in range(ticks):
            world.tick([self.taken(player, tick) for player in range(players)])
        return world

    def letter_to(self, receiver):
        first = self.there[receiver]
        pressed = self.known[self.number][first:]
        return Letter(self.number, receiver, first, pressed, len(self.known[receiver]))

    def receive(self, letter):
        sender = letter.sender
        # Only what is taken for the sender can change by its letter.
        before = self.taken_when_shown(sender)
        self.learn(letter)
        after = self.taken_when_shown(sender)
        self.again += self.shown() - first_difference(before, after)
        self.there[sender] = max(self.there[sender], letter.told)

    def taken_when_shown(self, player):
        return [self.taken(player, tick) for tick in range(self.shown())]

    def learn(self, letter):
        pressed = self.known[letter.sender]
        if len(pressed) >= letter.first:
            pressed.extend(letter.pressed[len(pressed) - letter.first:])
