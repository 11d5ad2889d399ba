"""The small world: a field that goes round at its ends, its players and a coin."""

SIDE = 8
LUCKS = 2147483648
SUMS = 1000000007
# What each key adds to x and y: 7 is one back, as the field goes round.
STEPS = ((0, 0), (1, 0), (0, 1), (7, 0), (0, 7))


def next_luck(luck):
    return (1103515245 * luck + 12345) % LUCKS


def side_of(luck):
    return luck // 65536 % SIDE


def place_beside(place, key):
    step = STEPS[key]
    return ((place[0] + step[0]) % SIDE, (place[1] + step[1]) % SIDE)


class World:
    """The world behind some ticks; before the first one when it is made."""

    def __init__(self, players, seed):
        self.places = [(2 * player, 2 * player) for player in range(players)]
        self.points = [0] * players
        self.coin = (4, 1)
        self.luck = seed % LUCKS

    def tick(self, pressed):
        """One tick, in which player i has pressed pressed[i]."""
        for player, key in enumerate(pressed):
            self.move(player, key)

    def move(self, player, key):
        place = place_beside(self.places[player], key)
        # For key 0 the player itself stands there: it neither goes nor takes a coin.
        if place in self.places:
            return
        self.places[player] = place
        if place == self.coin:
            self.points[player] += 1
            self.lay_coin()

    def lay_coin(self):
        for_x = next_luck(self.luck)
        for_y = next_luck(for_x)
        self.coin = (side_of(for_x), side_of(for_y))
        self.luck = for_y

    def numbers(self):
        """The world as it is answered."""
        told = []
        for place, points in zip(self.places, self.points):
            told.extend([place[0], place[1], points])
        told.extend([self.coin[0], self.coin[1]])
        return told

    def world_sum(self):
        """The luck is in it, though no answer tells it: worlds that look alike may go on otherwise."""
        so_far = 7
        for number in self.numbers() + [self.luck]:
            so_far = (31 * so_far + number + 1) % SUMS
        return so_far
