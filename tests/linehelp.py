"""What the tests share: the calls by name, and the store told anew, straight from the words."""

from fractions import Fraction

from perishingday.store import answers

NAMES = (
    "begin", "chance", "never", "prices", "gain", "best", "critical", "share", "sold", "lost", "upto",
    "next", "known", "pool", "fair", "lend", "dear", "stronger", "chances", "mean", "state",
)
SIZES = {
    "begin": 3, "chance": 3, "never": 2, "prices": 3, "gain": 2, "best": 1, "critical": 1,
    "share": 0, "sold": 2, "lost": 2, "upto": 2, "next": 2, "known": 1, "pool": 0, "fair": 2,
    "lend": 2, "dear": 2, "stronger": 0, "chances": 0, "mean": 1, "state": 0,
}
LARGEST = 4294967295


def line(calls):
    """One list of numbers from calls that are written ("gain", 0, 5)."""
    numbers = []
    for call in calls:
        assert len(call) == 1 + SIZES[call[0]], call
        numbers.append(NAMES.index(call[0]))
        numbers.extend(call[1:])
    return numbers


def parted(told):
    """The answers, each by itself, from the one list that is given back."""
    parts = []
    place = 0
    while place < len(told):
        end = place + 1 + told[place]
        parts.append(told[place + 1:end])
        place = end
    assert place == len(told), told
    return parts


def ask(*calls):
    """What each of the calls answers."""
    parts = parted(answers(line(calls)))
    assert len(parts) == len(calls), parts
    return parts


def last(*calls):
    """What the last of the calls answers."""
    return ask(*calls)[-1]


def two(value):
    value = Fraction(value)
    return [value.numerator, value.denominator]


class Told:
    """The store by the words themselves, row by row and in fractions, to hold the program against."""

    def __init__(self):
        self.terms = None
        self.rows = []

    def answer(self, name, *numbers):
        if name != "begin" and self.terms is None:
            return [-11]
        return getattr(self, "do_" + name)(*numbers)

    @staticmethod
    def as_told(c, p, b):
        return not (b > c or c > p or p > 1000 or p <= b)

    def whole(self):
        return sum(n for _, _, n in self.rows)

    def wanted(self, w):
        return [((x, y, x + y)[w], n) for x, y, n in self.rows]

    def looked_for(self, w, value):
        return Fraction(sum(n * value(d) for d, n in self.wanted(w)), self.whole())

    def gain_of(self, w, q):
        c, p, b = self.terms
        return self.looked_for(w, lambda d: p * d + b * (q - d) - c * q if d < q else p * q - c * q)

    def best_of(self, w):
        """The best number, and the gain that is to be looked for with it."""
        gains = [self.gain_of(w, q) for q in range(61)]
        return gains.index(max(gains)), max(gains)

    def refused(self, w=0, q=0, most=60):
        if w not in (0, 1, 2) or q not in range(most + 1):
            return [-22]
        return [] if self.rows else [-6]

    def do_begin(self, c, p, b):
        if not self.as_told(c, p, b):
            return [-22]
        self.terms = (c, p, b)
        self.rows = []
        return [0]

    def do_chance(self, x, y, n):
        if x not in range(31) or y not in range(31) or n not in range(1, 1001):
            return [-22]
        if len(self.rows) == 30:
            return [-28]
        self.rows = self.rows + [(x, y, n)]
        return [self.whole()]

    def do_never(self, x, y):
        if (x, y) not in [row[:2] for row in self.rows]:
            return [-6]
        self.rows = [row for row in self.rows if row[:2] != (x, y)]
        return [self.whole()]

    def do_prices(self, c, p, b):
        if not self.as_told(c, p, b):
            return [-22]
        were = list(self.terms)
        self.terms = (c, p, b)
        return [0] + were

    def do_gain(self, w, q):
        return self.refused(w, q) or [0] + two(self.gain_of(w, q))

    def do_best(self, w):
        if self.refused(w):
            return self.refused(w)
        number, most = self.best_of(w)
        return [number] + two(most)

    def do_critical(self, w):
        if self.refused(w):
            return self.refused(w)
        c, p, b = self.terms
        for q in range(61):
            often = sum(n for d, n in self.wanted(w) if d <= q)
            if Fraction(often, self.whole()) >= Fraction(p - c, p - b):
                return [q, often, self.whole()]

    def do_share(self):
        c, p, b = self.terms
        return [0] + two(Fraction(p - c, p - b))

    def do_sold(self, w, q):
        if self.refused(w, q):
            return self.refused(w, q)
        sold = self.looked_for(w, lambda d: min(d, q))
        left = self.looked_for(w, lambda d: max(q - d, 0))
        return [0] + two(sold) + two(left)

    def do_lost(self, w, q):
        return self.refused(w, q) or [0] + two(self.looked_for(w, lambda d: max(d - q, 0)))

    def do_upto(self, w, q):
        return self.refused(w, q) or [sum(n for d, n in self.wanted(w) if d <= q), self.whole()]

    def do_next(self, w, q):
        c, p, b = self.terms
        return self.refused(w, q, 59) or [0] + two(self.looked_for(w, lambda d: p - c if d > q else b - c))

    def do_known(self, w):
        if self.refused(w):
            return self.refused(w)
        c, p, _ = self.terms
        had_one_known = self.looked_for(w, lambda d: p * d - c * d)
        return [0] + two(had_one_known) + two(had_one_known - self.best_of(w)[1])

    def do_pool(self):
        if self.refused():
            return self.refused()
        (both, together), (here, by_here), (there, by_there) = (self.best_of(w) for w in (2, 0, 1))
        return [both, here, there] + two(together - by_here - by_there)

    def do_fair(self, q, r):
        return self.refused(0, max(q, r)) or [0] + two(self.gain_of(0, q) + self.gain_of(1, r))

    def do_lend(self, q, r):
        if self.refused(0, max(q, r)):
            return self.refused(0, max(q, r))
        return [0] + two(self.gain_of(2, q + r)) + two(self.looked_for(2, lambda d: min(d, q + r)))

    def do_dear(self, w, c):
        _, p, b = self.terms
        if w > 2 or not self.as_told(c, p, b):
            return [-22]
        if self.refused():
            return self.refused()
        other = Told()
        other.terms, other.rows = (c, p, b), self.rows
        return [other.best_of(w)[0], self.best_of(w)[0]]

    def do_stronger(self):
        if self.refused():
            return self.refused()
        here, there = ([sum(n for d, n in self.wanted(w) if d <= q) for q in range(61)] for w in (0, 1))
        return [int(not any(x > y for x, y in zip(here, there))), int(not any(y > x for x, y in zip(here, there)))]

    def do_chances(self):
        return [len(self.rows)] + [number for row in self.rows for number in row]

    def do_mean(self, w):
        return self.refused(w) or [0] + two(self.looked_for(w, lambda d: d))

    def do_state(self):
        return [self.whole(), len(self.rows)] + list(self.terms)


def told(*calls):
    """What the words tell that each of the calls answers."""
    store = Told()
    return [store.answer(*call) for call in calls]
