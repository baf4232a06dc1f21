"""One recording: what was pressed, the states that are kept, and how a tick is gone to."""

from playedagain.small_world import after_tick, first_world

MOST_STATES = 6
TICKS_PER_STATE = 8


class State:
    """The world that was at a tick."""

    def __init__(self, tick, world):
        self.tick = tick
        self.world = world


def which_state_goes(states):
    """The index of the state, not the last, whose neighbours are the fewest ticks apart."""
    ticks = [0] + [state.tick for state in states]
    apart = [ticks[i + 2] - ticks[i] for i in range(len(states) - 1)]
    return apart.index(min(apart))


class Recording:
    """How many play, the seed, what each pressed at each tick, and the states that are kept, rising."""

    def __init__(self, how_many, seed):
        self.how_many = how_many
        self.seed = seed
        self.presses = []
        self.states = []

    def ticks(self):
        """How many ticks are recorded."""
        return len(self.presses)

    def twin(self):
        """Another recording that is as this one is now."""
        other = Recording(self.how_many, self.seed)
        other.presses = list(self.presses)
        other.states = list(self.states)
        return other

    def state_ahead(self, tick):
        """The latest kept state that isn't later than the tick, or the beginning."""
        latest = State(0, first_world(self.how_many, self.seed))
        for state in self.states:
            if state.tick <= tick:
                latest = state
        return latest

    def world_from(self, state, tick):
        """The world at the tick, played from a state that isn't later."""
        world = state.world
        for pressed in self.presses[state.tick:tick]:
            world = after_tick(world, pressed)
        return world

    def world_at(self, tick):
        """The world at the tick."""
        return self.world_from(self.state_ahead(tick), tick)

    def all_worlds(self):
        """The worlds at all ticks, that at the beginning first."""
        worlds = [first_world(self.how_many, self.seed)]
        for pressed in self.presses:
            worlds.append(after_tick(worlds[-1], pressed))
        return worlds

    def record(self, how_often, pressed):
        """Go on by so many ticks with the same keys; the world then."""
        done = self.ticks()
        world = self.world_at(done)
        for tick in range(done + 1, done + how_often + 1):
            world = after_tick(world, pressed)
            # A tuple, since recordings that were put by share it.
            self.presses.append(tuple(pressed))
            if tick % TICKS_PER_STATE == 0:
                self.keep(State(tick, world))
        return world

    def keep(self, state):
        """Keep a state that is later than all others; one goes if there are too many then."""
        self.states.append(state)
        if len(self.states) > MOST_STATES:
            self.states.pop(which_state_goes(self.states))

    def forget_behind(self, tick):
        """Forget all ticks and kept states behind the tick."""
        self.presses = self.presses[:tick]
        self.forget_states_behind(tick)

    def forget_states_behind(self, tick):
        """Forget the kept states behind the tick."""
        self.states = [state for state in self.states if state.tick <= tick]

    def press_otherwise(self, tick, player, key):
        """Record that the player pressed this key, not that of before, at the tick behind the one told."""
        pressed = list(self.presses[tick])
        pressed[player] = key
        self.presses[tick] = tuple(pressed)
        # They were played with what was pressed before.
        self.forget_states_behind(tick)
