"""Stands and wishes drawn from a row of numbers that is the same on every run."""

from points import BY_7, end_by_16, fulfilling_all

WORDS = ("unlike", "many", "sum", "row", "hand")


class Draw:
    def __init__(self, seed):
        self.state = seed

    def below(self, limit):
        self.state = (self.state * 6364136223846793005 + 1442695040888963407) % 2 ** 64
        return (self.state >> 33) % limit

    def whole(self, low, high):
        return low + self.below(high - low + 1)

    def pick(self, things):
        return things[self.below(len(things))]

    def some(self, things, size):
        """So many of the things, unlike, in any order."""
        left = list(things)
        return tuple(left.pop(self.below(len(left))) for _ in range(size))

    def rising(self, things, size):
        return tuple(sorted(self.some(things, size)))

    def stand(self):
        pool = self.pick((range(3), range(-1, 3), range(4), (-9, -1, 0, 1, 9), range(-9, 10)))
        return tuple(self.rising(pool, self.whole(1, min(4, len(pool)))) for _ in range(self.pick((1, 2, 3, 3, 4, 4))))

    def names(self, stand):
        return self.some(range(len(stand)), self.pick((len(stand), self.whole(1, len(stand)))))

    def worth(self, stand):
        """Mostly one that a name has."""
        if self.below(6) == 0:
            return self.whole(-9, 9)
        return self.pick(self.pick(stand))

    def bound(self, worth):
        low = self.pick((0, 0, 1, 1, 2, 3, 4))
        return (worth, low, self.whole(low, self.pick((low, low, min(low + 1, 4), 4))))

    def unlike(self, stand):
        return ("unlike", self.names(stand))

    def many(self, stand):
        worths = {self.worth(stand) for _ in range(self.whole(0, 4))}
        return ("many", self.names(stand), tuple(self.bound(worth) for worth in sorted(worths)))

    def sum(self, stand):
        names = self.names(stand)
        weights = tuple(self.whole(-3, 3) for _ in names)
        low = self.whole(-12, 12)
        high = self.pick((low, low, low + 1, low + 4, 99))
        return self.pick((("sum", names, weights, low, high), ("sum", names, weights, -high, -low)))

    def row(self, stand):
        doors = {(self.below(4), self.worth(stand), self.below(4)) for _ in range(self.whole(0, 12))}
        if self.below(3) > 0:
            doors = set(list(sorted(doors))[:10]) | {(0, self.worth(stand), self.below(4)) for _ in range(2)}
        doors = self.some(sorted(doors), len(doors))
        return ("row", self.names(stand), doors, self.rising(range(4), self.below(5)))

    def hand(self, stand):
        names = self.names(stand)
        return ("hand", names, tuple(self.pick((1, 1, 1, 2, 2, 3, 4)) for _ in names))

    def wish(self, stand):
        return getattr(self, self.pick(WORDS))(stand)

    def parity(self, stand):
        """A row that asks for an even or an odd sum: alone it strikes nothing where two names are mixed."""
        worths = sorted({worth for worths in stand for worth in worths})
        doors = tuple((q, worth, (q + worth) % 2) for worth in worths for q in (0, 1))
        return ("row", self.names(stand), doors, (self.below(2),))

    def knotted(self):
        """A stand and three wishes that seldom strike at once, and often can't be together."""
        low = self.pick((0, -1, -9, 6))
        many = self.pick((2, 3, 3, 4, 4))
        stand = tuple(self.rising(range(low, low + 4), self.pick((2, 2, 2, 3, 4))) for _ in range(many))
        return stand, [getattr(self, self.pick(("parity", "parity", "unlike", "sum")))(stand) for _ in range(3)]

    def filling(self, stand):
        return tuple(self.pick(worths) for worths in stand)

    def wish_of(self, stand, filling):
        """One that the filling fulfils, mostly: so that rounds don't end all too often."""
        for _ in range(12):
            wish = self.wish(stand)
            if BY_7[wish[0]]([filling[name] for name in wish[1]], *wish[2:]):
                break
        return wish

    def wishes(self, stand, many):
        """Some that one filling fulfils, some that each has one of its own for, some any."""
        filling = self.filling(stand)
        how = self.below(3)
        return [
            (self.wish(stand), self.wish_of(stand, self.filling(stand)), self.wish_of(stand, filling))[how]
            for _ in range(many)
        ]


def drawn_with_wishes(seed, many):
    """So many stands, each with a list of none to three wishes."""
    draw = Draw(seed)
    for _ in range(many):
        stand = draw.stand()
        yield stand, draw.wishes(stand, draw.pick((0, 1, 1, 2, 2, 2, 3, 3, 3)))


def drawn_knotted(seed, many):
    """So many stands with wishes by which rounds don't end, though no filling fulfils all."""
    draw = Draw(seed)
    while many:
        stand, wishes = draw.knotted()
        if not fulfilling_all(stand, wishes) and end_by_16(stand, wishes) is not None:
            many -= 1
            yield stand, wishes


def drawn(word, many):
    """So many pairs of a stand and a wish of this kind."""
    draw = Draw(sum(map(ord, word)))
    for _ in range(many):
        stand = draw.stand()
        yield stand, getattr(draw, word)(stand)
