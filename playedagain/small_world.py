"""The small world: the field, its players, the coin and the luck, and what a tick does to them."""

FIELD_SIZE = 16
FIRST_COIN = (8, 2)
LUCK_RANGE = 2147483648
LUCK_PER_PLACE = 65536
SUM_RANGE = 1000000007

# By the key pressed: nothing, right, down, left, up.
STEPS = ((0, 0), (1, 0), (0, 1), (-1, 0), (0, -1))


class Player:
    """Where a player stands, as (x, y), and its points; not changed once made."""

    def __init__(self, place, points):
        self.place = place
        self.points = points


class World:
    """The players, the coin's place and the luck; not changed once made, so that recordings may share it."""

    def __init__(self, players, coin, luck):
        self.players = players
        self.coin = coin
        self.luck = luck


def first_world(how_many, seed):
    """The world at tick 0."""
    players = [Player((4 * i, 4 * i), 0) for i in range(how_many)]
    return World(players, FIRST_COIN, seed % LUCK_RANGE)


def next_luck(luck):
    """The luck behind this one."""
    return (1103515245 * luck + 12345) % LUCK_RANGE


def column_or_row(luck):
    """Where along one side of the field this luck puts the coin."""
    return luck // LUCK_PER_PLACE % FIELD_SIZE


def is_key(number):
    """Whether this number is one that can be pressed."""
    return number < len(STEPS)


def place_ahead(place, key):
    """The place that a key leads to, round the field's ends."""
    step = STEPS[key]
    return ((place[0] + step[0]) % FIELD_SIZE, (place[1] + step[1]) % FIELD_SIZE)


def with_player(world, number, player):
    """The players of a world, with another one in the place of the one with this number."""
    return world.players[:number] + [player] + world.players[number + 1:]


def after_key(world, number, key):
    """The world when the player with this number has pressed the key."""
    player = world.players[number]
    place = place_ahead(player.place, key)
    # Whoever presses nothing stands at that place itself, and so stays.
    if place in [other.place for other in world.players]:
        return world
    if place != world.coin:
        return World(with_player(world, number, Player(place, player.points)), world.coin, world.luck)
    luck_for_x = next_luck(world.luck)
    luck_for_y = next_luck(luck_for_x)
    coin = (column_or_row(luck_for_x), column_or_row(luck_for_y))
    return World(with_player(world, number, Player(place, player.points + 1)), coin, luck_for_y)


def after_tick(world, pressed):
    """The world when each player, in order, has pressed its key."""
    for number, key in enumerate(pressed):
        world = after_key(world, number, key)
    return world


def world_numbers(world):
    """A world as it is answered: each player's x, y, points; the coin's x, y."""
    numbers = []
    for player in world.players:
        numbers.extend([player.place[0], player.place[1], player.points])
    return numbers + [world.coin[0], world.coin[1]]


def numbers_with_luck(world):
    """All that a world has, the luck, which isn't answered, included."""
    return world_numbers(world) + [world.luck]


def are_alike(world, other):
    """Whether two worlds are the same in all that they have."""
    # Not by their sums: worlds that differ may have the same sum.
    return numbers_with_luck(world) == numbers_with_luck(other)


def world_sum(world):
    """The sum of a world, its luck included."""
    total = 7
    for number in numbers_with_luck(world):
        total = (31 * total + number + 1) % SUM_RANGE
    return total
