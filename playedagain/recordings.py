"""Recordings of a small game: the world, what was pressed in it, and the calls about two recordings."""

FIELD_SIZE = 16
FIRST_COIN = (8, 2)
LUCK_RANGE = 2147483648
LUCK_PER_PLACE = 65536
SUM_RANGE = 1000000007

# By the key pressed: nothing, right, down, left, up.
STEPS = ((0, 0), (1, 0), (0, 1), (-1, 0), (0, -1))

MOST_PLAYERS = 4
MOST_TICKS = 120
MOST_STATES = 6
TICKS_PER_STATE = 8

NOT_ALLOWED = -1
NO_SUCH_TICK = -2
TOO_MANY_TICKS = -5

BEGINS = 0
PRESS = 1
HOLD = 2
SEEK = 3
CUT = 4
PUT_BY = 5


class Player:
    """Where a player stands, as (x, y), and its points; not changed once made."""

    def __init__(self, place, points):
        self.place = place
        self.points = points


class World:
    """The players, the coin's place and the luck; not changed once made, so that recordings may share it."""

    def __init__(self, players, coin, luck):
        self.players = players
        self.coin = coin
        self.luck = luck


def first_world(how_many, seed):
    """The world at tick 0."""
    players = [Player((4 * i, 4 * i), 0) for i in range(how_many)]
    return World(players, FIRST_COIN, seed % LUCK_RANGE)


def next_luck(luck):
    """The luck behind this one."""
    return (1103515245 * luck + 12345) % LUCK_RANGE


def column_or_row(luck):
    """Where along one side of the field this luck puts the coin."""
    return luck // LUCK_PER_PLACE % FIELD_SIZE


def place_ahead(place, key):
    """The place that a key leads to, round the field's ends."""
    step = STEPS[key]
    return ((place[0] + step[0]) % FIELD_SIZE, (place[1] + step[1]) % FIELD_SIZE)


def with_player(world, number, player):
    """The players of a world, with another one in the place of the one with this number."""
    return world.players[:number] + [player] + world.players[number + 1:]


def after_key(world, number, key):
    """The world when the player with this number has pressed the key."""
    player = world.players[number]
    place = place_ahead(player.place, key)
    # Whoever presses nothing stands at that place itself, and so stays.
    if place in [other.place for other in world.players]:
        return world
    if place != world.coin:
        return World(with_player(world, number, Player(place, player.points)), world.coin, world.luck)
    luck_for_x = next_luck(world.luck)
    luck_for_y = next_luck(luck_for_x)
    coin = (column_or_row(luck_for_x), column_or_row(luck_for_y))
    return World(with_player(world, number, Player(place, player.points + 1)), coin, luck_for_y)


def after_tick(world, pressed):
    """The world when each player, in order, has pressed its key."""
    for number, key in enumerate(pressed):
        world = after_key(world, number, key)
    return world


def world_numbers(world):
    """A world as it is answered: each player's x, y, points; the coin's x, y."""
    numbers = []
    for player in world.players:
        numbers.extend([player.place[0], player.place[1], player.points])
    return numbers + [world.coin[0], world.coin[1]]


def world_sum(world):
    """The sum of a world, its luck included."""
    total = 7
    for number in world_numbers(world) + [world.luck]:
        total = (31 * total + number + 1) % SUM_RANGE
    return total


class State:
    """The world that was at a tick."""

    def __init__(self, tick, world):
        self.tick = tick
        self.world = world


def which_state_goes(states):
    """The index of the state, not the last, whose neighbours are the fewest ticks apart."""
    ticks = [0] + [state.tick for state in states]
    apart = [ticks[i + 2] - ticks[i] for i in range(len(states) - 1)]
    return apart.index(min(apart))


class Recording:
    """How many play, the seed, what each pressed at each tick, and the states that are kept, rising."""

    def __init__(self, how_many, seed):
        self.how_many = how_many
        self.seed = seed
        self.presses = []
        self.states = []

    def ticks(self):
        """How many ticks are recorded."""
        return len(self.presses)

    def twin(self):
        """Another recording that is as this one is now."""
        other = Recording(self.how_many, self.seed)
        other.presses = list(self.presses)
        other.states = list(self.states)
        return other

    def state_ahead(self, tick):
        """The latest kept state that isn't later than the tick, or the beginning."""
        latest = State(0, first_world(self.how_many, self.seed))
        for state in self.states:
            if state.tick <= tick:
                latest = state
        return latest

    def world_from(self, state, tick):
        """The world at the tick, played from a state that isn't later."""
        world = state.world
        for pressed in self.presses[state.tick:tick]:
            world = after_tick(world, pressed)
        return world

    def record(self, how_often, pressed):
        """Go on by so many ticks with the same keys; the world then."""
        done = self.ticks()
        world = self.world_from(self.state_ahead(done), done)
        for tick in range(done + 1, done + how_often + 1):
            world = after_tick(world, pressed)
            # A tuple, since the ticks of one hold share it.
            self.presses.append(tuple(pressed))
            if tick % TICKS_PER_STATE == 0:
                self.keep(State(tick, world))
        return world

    def keep(self, state):
        """Keep a state that is later than all others; one goes if there are too many then."""
        self.states.append(state)
        if len(self.states) > MOST_STATES:
            self.states.pop(which_state_goes(self.states))

    def forget_behind(self, tick):
        """Forget all ticks and kept states behind the tick."""
        self.presses = self.presses[:tick]
        self.states = [state for state in self.states if state.tick <= tick]


def are_keys_of(pressed, how_many):
    """Whether these are as many numbers as there are players, each a key."""
    return len(pressed) == how_many and all([key < len(STEPS) for key in pressed])


class Line:
    """The recording that goes on and the one that's put by; each call answers a list of numbers."""

    def __init__(self):
        self.going = Recording(1, 1)
        self.aside = Recording(1, 1)

    def begins(self, players, seed):
        """A new recording goes on."""
        if players < 1 or players > MOST_PLAYERS:
            return [NOT_ALLOWED]
        self.going = Recording(players, seed)
        return world_numbers(first_world(players, seed))

    def press(self, pressed):
        """Record one tick."""
        return self.hold(1, pressed)

    def hold(self, ticks, pressed):
        """Record so many ticks with the same keys."""
        if ticks == 0 or not are_keys_of(pressed, self.going.how_many):
            return [NOT_ALLOWED]
        if self.going.ticks() + ticks > MOST_TICKS:
            return [TOO_MANY_TICKS]
        world = self.going.record(ticks, pressed)
        return [self.going.ticks()] + world_numbers(world)

    def seek(self, tick):
        """Go to a tick, without a change to the recording."""
        if tick > self.going.ticks():
            return [NO_SUCH_TICK]
        state = self.going.state_ahead(tick)
        return [tick - state.tick] + world_numbers(self.going.world_from(state, tick))

    def cut(self, tick):
        """Forget all behind a tick."""
        if tick > self.going.ticks():
            return [NO_SUCH_TICK]
        self.going.forget_behind(tick)
        return [self.going.ticks(), len(self.going.states)]

    def put_by(self):
        """Put the recording that goes on by, too, as it is."""
        self.aside = self.going.twin()
        return [self.aside.ticks()]


class Reader:
    """Reads the numbers of a list of calls, one behind another."""

    def __init__(self, numbers):
        self.numbers = numbers
        self.at = 0

    def has_more(self):
        """Whether there are numbers that are not read yet."""
        return self.at < len(self.numbers)

    def number(self):
        """The next number."""
        self.at += 1
        return self.numbers[self.at - 1]

    def row(self):
        """The next row, which has how many numbers it has before it."""
        begin = self.at + 1
        self.at = begin + self.numbers[self.at]
        return self.numbers[begin:self.at]


class UnknownCall(ValueError):
    """There is no call with this number."""


def answer_next(line, reader):
    """What the line answers to the call that is read next."""
    call = reader.number()
    if call == BEGINS:
        players = reader.number()
        return line.begins(players, reader.number())
    if call == PRESS:
        return line.press(reader.row())
    if call == HOLD:
        ticks = reader.number()
        return line.hold(ticks, reader.row())
    if call == SEEK:
        return line.seek(reader.number())
    if call == CUT:
        return line.cut(reader.number())
    if call == PUT_BY:
        return line.put_by()
    raise UnknownCall(f"no call has the number {call}")


def answers(calls):
    """For each call, in order: how many numbers are answered, then these."""
    line = Line()
    reader = Reader(calls)
    numbers = []
    while reader.has_more():
        answer = answer_next(line, reader)
        numbers.append(len(answer))
        numbers.extend(answer)
    return numbers
