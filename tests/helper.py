"""What the tests share: calls written by name, answers call by call, and a plain model to compare with."""

from playedagain.recordings import answers


def begins(players, seed):
    return [0, players, seed]


def press(*keys):
    return [1, len(keys), *keys]


def hold(ticks, *keys):
    return [2, ticks, len(keys), *keys]


def seek(tick):
    return [3, tick]


def cut(tick):
    return [4, tick]


def put_by():
    return [5]


def replies(*calls):
    """The answer to each call of one line, each as a list."""
    flat = [number for call in calls for number in call]
    numbers = answers(flat)
    found = []
    while numbers:
        size = numbers[0]
        found.append(numbers[1:size + 1])
        numbers = numbers[size + 1:]
    return found


def last(*calls):
    """The answer to the last of the calls."""
    return replies(*calls)[-1]


class Model:
    """The document's words once more: every world is played from the beginning, nothing is shared."""

    def __init__(self):
        self.players, self.seed, self.keys, self.kept = 1, 1, [], []

    def world(self, tick):
        xs, ys = [4 * i for i in range(self.players)], [4 * i for i in range(self.players)]
        points, coin, luck = [0] * self.players, (8, 2), self.seed % 2**31
        for row in self.keys[:tick]:
            for i, key in enumerate(row):
                x, y = xs[i], ys[i]
                if key == 1:
                    x = 0 if x == 15 else x + 1
                elif key == 2:
                    y = 0 if y == 15 else y + 1
                elif key == 3:
                    x = 15 if x == 0 else x - 1
                elif key == 4:
                    y = 15 if y == 0 else y - 1
                if key == 0 or (x, y) in zip(xs, ys):
                    continue
                xs[i], ys[i] = x, y
                if (x, y) == coin:
                    points[i] += 1
                    a = (1103515245 * luck + 12345) % 2**31
                    luck = (1103515245 * a + 12345) % 2**31
                    coin = ((a >> 16) & 15, (luck >> 16) & 15)
        return [n for player in zip(xs, ys, points) for n in player] + list(coin)

    def keep(self, tick):
        self.kept.append(tick)
        if len(self.kept) > 6:
            best = None
            for i in range(6):
                apart = self.kept[i + 1] - (self.kept[i - 1] if i > 0 else 0)
                if best is None or apart < best[0]:
                    best = (apart, i)
            del self.kept[best[1]]

    def answer(self, call):
        number, rest = call[0], call[1:]
        if number == 0:
            if not 1 <= rest[0] <= 4:
                return [-1]
            self.players, self.seed, self.keys, self.kept = rest[0], rest[1], [], []
            return self.world(0)
        if number in (1, 2):
            often, row = (1, rest[1:]) if number == 1 else (rest[0], rest[2:])
            if often == 0 or len(row) != self.players or max(row) > 4:
                return [-1]
            if len(self.keys) + often > 120:
                return [-5]
            for i in range(often):
                self.keys.append(row)
                if len(self.keys) % 8 == 0:
                    self.keep(len(self.keys))
            return [len(self.keys)] + self.world(len(self.keys))
        if number == 5:
            return [len(self.keys)]
        tick = rest[0]
        if tick > len(self.keys):
            return [-2]
        if number == 3:
            return [tick - max([0] + [k for k in self.kept if k <= tick])] + self.world(tick)
        self.keys = self.keys[:tick]
        self.kept = [k for k in self.kept if k <= tick]
        return [len(self.keys), len(self.kept)]
