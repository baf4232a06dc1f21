"""The calls about two recordings, one that goes on and one that's put by."""

from playedagain.one_recording import Recording
from playedagain.small_world import are_alike, first_world, is_key, world_numbers, world_sum

MOST_PLAYERS = 4
MOST_TICKS = 120

NOT_ALLOWED = -1
NO_SUCH_TICK = -2
TOO_MANY_TICKS = -5
ALIKE = -6


def are_keys_of(pressed, how_many):
    """Whether these are as many numbers as there are players, each a key."""
    return len(pressed) == how_many and all([is_key(key) for key in pressed])


class Line:
    """The recording that goes on and the one that's put by; each call answers a list of numbers."""

    def __init__(self):
        self.going = Recording(1, 1)
        self.aside = Recording(1, 1)

    def begins(self, players, seed):
        """A new recording goes on."""
        if players < 1 or players > MOST_PLAYERS:
            return [NOT_ALLOWED]
        self.going = Recording(players, seed)
        return world_numbers(first_world(players, seed))

    def press(self, pressed):
        """Record one tick."""
        return self.hold(1, pressed)

    def hold(self, ticks, pressed):
        """Record so many ticks with the same keys."""
        if ticks == 0 or not are_keys_of(pressed, self.going.how_many):
            return [NOT_ALLOWED]
        if self.going.ticks() + ticks > MOST_TICKS:
            return [TOO_MANY_TICKS]
        world = self.going.record(ticks, pressed)
        return [self.going.ticks()] + world_numbers(world)

    def seek(self, tick):
        """Go to a tick, without a change to the recording."""
        if tick > self.going.ticks():
            return [NO_SUCH_TICK]
        state = self.going.state_ahead(tick)
        return [tick - state.tick] + world_numbers(self.going.world_from(state, tick))

    def cut(self, tick):
        """Forget all behind a tick."""
        if tick > self.going.ticks():
            return [NO_SUCH_TICK]
        self.going.forget_behind(tick)
        return [self.going.ticks(), len(self.going.states)]

    def put_by(self):
        """Put the recording that goes on by, too, as it is."""
        self.aside = self.going.twin()
        return [self.aside.ticks()]

    def swap(self):
        """Let the two change places."""
        other = self.going
        self.going = self.aside
        self.aside = other
        return [self.going.ticks(), self.aside.ticks()]

    def differ(self):
        """Tell the first tick at which the worlds of the two are otherwise, as far as both go."""
        worlds = self.going.all_worlds()
        others = self.aside.all_worlds()
        for tick in range(min(len(worlds), len(others))):
            if not are_alike(worlds[tick], others[tick]):
                return [tick] + world_numbers(worlds[tick]) + world_numbers(others[tick])
        return [ALIKE]

    def kept(self):
        """Tell of each kept state its tick and its world's sum."""
        numbers = [len(self.going.states)]
        for state in self.going.states:
            numbers.extend([state.tick, world_sum(state.world)])
        return numbers

    def sum_at(self, tick):
        """Tell the sum of the world at a tick."""
        if tick > self.going.ticks():
            return [NO_SUCH_TICK]
        return [world_sum(self.going.world_at(tick))]

    def keys_behind(self, tick, how_many):
        """Tell what was pressed at the ticks behind a tick, so many of them at most."""
        if tick >= self.going.ticks():
            return [NO_SUCH_TICK]
        presses = self.going.presses[tick:tick + how_many]
        numbers = [len(presses)]
        for pressed in presses:
            numbers.extend(pressed)
        return numbers

    def spoil(self, tick, player, what):
        """Record that a player pressed something else at the tick behind a tick."""
        if not is_key(what) or player >= self.going.how_many:
            return [NOT_ALLOWED]
        if tick >= self.going.ticks():
            return [NO_SUCH_TICK]
        self.going.press_otherwise(tick, player, what)
        return [len(self.going.states), world_sum(self.going.world_at(self.going.ticks()))]
