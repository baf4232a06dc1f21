"""What the tests share: calls written by name, answers call by call, and a plain model to compare with."""

from playedagain.recordings import answers


def begins(players, seed):
    return [0, players, seed]


def press(*keys):
    return [1, len(keys), *keys]


def hold(ticks, *keys):
    return [2, ticks, len(keys), *keys]


def seek(tick):
    return [3, tick]


def cut(tick):
    return [4, tick]


def put_by():
    return [5]


def swap():
    return [6]


def differ():
    return [7]


def kept():
    return [8]


def sum_at(tick):
    return [9, tick]


def keys(tick, how_many):
    return [10, tick, how_many]


def spoil(tick, player, what):
    return [11, tick, player, what]


def replies(*calls):
    """The answer to each call of one line, each as a list."""
    flat = [number for call in calls for number in call]
    numbers = answers(flat)
    found = []
    while numbers:
        size = numbers[0]
        found.append(numbers[1:size + 1])
        numbers = numbers[size + 1:]
    return found


def last(*calls):
    """The answer to the last of the calls."""
    return replies(*calls)[-1]


def summed(numbers):
    """A world's sum, of its numbers with the luck behind them."""
    h = 7
    for v in numbers:
        h = (31 * h + v + 1) % 1000000007
    return h


class Take:
    """One recording of the model: every world is played from the beginning, and only ticks are kept."""

    def __init__(self, players, seed):
        self.players, self.seed, self.rows, self.kept = players, seed, [], []

    def copy(self):
        other = Take(self.players, self.seed)
        other.rows, other.kept = [list(row) for row in self.rows], list(self.kept)
        return other

    def whole(self, tick):
        """The world at the tick as it is answered, and the luck behind it."""
        xs, ys = [4 * i for i in range(self.players)], [4 * i for i in range(self.players)]
        points, coin, luck = [0] * self.players, (8, 2), self.seed % 2**31
        for row in self.rows[:tick]:
            for i, key in enumerate(row):
                x, y = xs[i], ys[i]
                if key == 1:
                    x = 0 if x == 15 else x + 1
                elif key == 2:
                    y = 0 if y == 15 else y + 1
                elif key == 3:
                    x = 15 if x == 0 else x - 1
                elif key == 4:
                    y = 15 if y == 0 else y - 1
                if key == 0 or (x, y) in zip(xs, ys):
                    continue
                xs[i], ys[i] = x, y
                if (x, y) == coin:
                    points[i] += 1
                    a = (1103515245 * luck + 12345) % 2**31
                    luck = (1103515245 * a + 12345) % 2**31
                    coin = ((a >> 16) & 15, (luck >> 16) & 15)
        return [n for player in zip(xs, ys, points) for n in player] + [*coin, luck]

    def world(self, tick):
        return self.whole(tick)[:-1]

    def sum(self, tick):
        return summed(self.whole(tick))

    def add(self, row):
        self.rows.append(list(row))
        if len(self.rows) % 8 == 0:
            self.keep(len(self.rows))

    def keep(self, tick):
        self.kept.append(tick)
        if len(self.kept) > 6:
            best = None
            for i in range(6):
                apart = self.kept[i + 1] - (self.kept[i - 1] if i > 0 else 0)
                if best is None or apart < best[0]:
                    best = (apart, i)
            del self.kept[best[1]]

    def forget_kept(self, tick):
        self.kept = [k for k in self.kept if k <= tick]


class Model:
    """The document's words once more, told for two takes that share nothing."""

    def __init__(self):
        self.going, self.other = Take(1, 1), Take(1, 1)

    def answer(self, call):
        names = ("begins", "press", "hold", "seek", "cut", "put_by",
                 "swap", "differ", "kept", "sum_at", "keys", "spoil")
        return getattr(self, names[call[0]])(*call[1:])

    def begins(self, players, seed):
        if players not in (1, 2, 3, 4):
            return [-1]
        self.going = Take(players, seed)
        return self.going.world(0)

    def press(self, count, *row):
        return self.hold(1, count, *row)

    def hold(self, ticks, count, *row):
        take = self.going
        if count != take.players or not set(row) <= {0, 1, 2, 3, 4} or ticks == 0:
            return [-1]
        if len(take.rows) + ticks > 120:
            return [-5]
        for i in range(ticks):
            take.add(row)
        return [len(take.rows)] + take.world(len(take.rows))

    def seek(self, tick):
        if tick > len(self.going.rows):
            return [-2]
        return [tick - max([0] + [k for k in self.going.kept if k <= tick])] + self.going.world(tick)

    def cut(self, tick):
        if tick > len(self.going.rows):
            return [-2]
        self.going.rows = self.going.rows[:tick]
        self.going.forget_kept(tick)
        return [tick, len(self.going.kept)]

    def put_by(self):
        self.other = self.going.copy()
        return [len(self.other.rows)]

    def swap(self):
        self.going, self.other = self.other, self.going
        return [len(self.going.rows), len(self.other.rows)]

    def differ(self):
        for tick in range(min(len(self.going.rows), len(self.other.rows)) + 1):
            if self.going.whole(tick) != self.other.whole(tick):
                return [tick] + self.going.world(tick) + self.other.world(tick)
        return [-6]

    def kept(self):
        return [len(self.going.kept)] + [n for tick in self.going.kept for n in (tick, self.going.sum(tick))]

    def sum_at(self, tick):
        return [self.going.sum(tick)] if tick <= len(self.going.rows) else [-2]

    def keys(self, tick, how_many):
        if tick >= len(self.going.rows):
            return [-2]
        rows = self.going.rows[tick:][:how_many]
        return [len(rows)] + [key for row in rows for key in row]

    def spoil(self, tick, player, what):
        if what > 4 or player >= self.going.players:
            return [-1]
        if tick >= len(self.going.rows):
            return [-2]
        self.going.rows[tick][player] = what
        self.going.forget_kept(tick)
        return [len(self.going.kept), self.going.sum(len(self.going.rows))]


def modelled(*calls):
    """What the model answers to each call of one line."""
    model = Model()
    return [model.answer(call) for call in calls]
