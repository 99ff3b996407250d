"""Calls by their names, a line's answers call by call, and the words of the document in fractions."""

from fractions import Fraction

from changechoosing.shares import answers

NUMBERS = {
    "start": 0, "change": 1, "share": 2, "worths": 3, "told": 4, "mean": 5, "chosen": 6,
    "changed": 7, "after": 8, "go": 9, "way": 10, "wayAt": 11, "near": 12, "even": 13,
    "burden": 14, "lost": 15, "soon": 16, "ratio": 17, "evenAfter": 18, "state": 19,
}

COUNTS = {
    "start": 2, "change": 2, "share": 2, "worths": 2, "told": 0, "mean": 0, "chosen": 0,
    "changed": 2, "after": 1, "go": 0, "way": 0, "wayAt": 2, "near": 1, "even": 0,
    "burden": 0, "lost": 0, "soon": 2, "ratio": 1, "evenAfter": 1, "state": 0,
}

GREATEST = 4294967295


def line(*calls):
    """The list handed in; a call is its name alone, or a tuple of its name and its numbers."""
    numbers = []
    for call in calls:
        parts = (call,) if isinstance(call, str) else call
        if len(parts) != 1 + COUNTS[parts[0]]:
            raise ValueError(f"{parts}: wrong count")
        numbers.append(NUMBERS[parts[0]])
        numbers.extend(parts[1:])
    return numbers


def apart(told):
    """The answers of a line, one list a call."""
    parts = []
    place = 0
    while place < len(told):
        count = told[place]
        part = told[place + 1:place + 1 + count]
        if count < 1 or len(part) != count:
            raise ValueError(f"{told}: wrong count at {place}")
        parts.append(part)
        place += 1 + count
    return parts


def ask(*calls):
    return apart(answers(line(*calls)))


def last(*calls):
    return ask(*calls)[-1]


class Model:
    """The document's words, said once more over Python's fractions."""

    def __init__(self):
        self.started = False

    def mean(self, s):
        return self.w * s + self.o * (1 - s)

    def chosen(self, s):
        return self.w * s / self.mean(s)

    def changed(self, s):
        return s - s * Fraction(self.u, 1000) + (1 - s) * Fraction(self.v, 1000)

    def following(self, s):
        return self.changed(self.chosen(s))

    def ahead(self, n):
        s = self.s
        for _ in range(n):
            s = self.following(s)
        return s

    def even_ahead(self, n):
        s = self.s
        for _ in range(n):
            s = self.changed(s)
        return s

    def way(self, s):
        t = self.following(s)
        return (t > s) - (t < s)

    def answer(self, call):
        name, numbers = call[0], call[1:]
        if name == "start":
            return self.start(*numbers)
        if not self.started:
            return [-11]
        if hasattr(self, "do_" + name):
            return getattr(self, "do_" + name)(*numbers)
        if name == "go":
            if self.s.denominator > 10 ** 6:
                return [-28]
            self.s = self.ahead(1)
            return [0]
        tell = {"told": lambda s: s, "mean": self.mean, "chosen": self.chosen}[name]
        return with_fraction(tell(self.s))

    def start(self, w, o):
        if not (1 <= w <= 100 and 1 <= o <= 100):
            return [-22]
        self.started = True
        self.w, self.o, self.u, self.v, self.s = w, o, 0, 0, Fraction(0)
        return [0]

    def do_worths(self, w, o):
        if not (1 <= w <= 100 and 1 <= o <= 100):
            return [-22]
        before = [self.w, self.o]
        self.w, self.o = w, o
        return before

    def do_change(self, u, v):
        if u + v > 1000:
            return [-22]
        before = [self.u, self.v]
        self.u, self.v = u, v
        return before

    def do_share(self, x, y):
        if not is_share(x, y):
            return [-22]
        self.s = Fraction(x, y)
        return [0]

    def do_changed(self, x, y):
        if not is_share(x, y):
            return [-22]
        return with_fraction(self.changed(Fraction(x, y)))

    def do_after(self, n):
        return [-22] if n > 3 else with_fraction(self.ahead(n))

    def do_way(self):
        return [0, self.way(self.s)]

    def do_wayAt(self, x, y):
        return [0, self.way(Fraction(x, y))] if is_share(x, y) else [-22]

    def do_near(self, n):
        if not 1 <= n <= 100:
            return [-22]
        ways = [self.way(Fraction(k, n)) for k in range(n + 1)]
        return [max(k for k in range(n + 1) if min(ways[:k + 1]) >= 0)]

    def do_even(self):
        return [-33] if self.u + self.v == 0 else with_fraction(Fraction(self.v, self.u + self.v))

    def do_evenAfter(self, n):
        return [-22] if n > 5 else with_fraction(self.even_ahead(n))

    def do_soon(self, x, y):
        if not is_share(x, y):
            return [-22]
        reached = [k for k in range(6) if self.even_ahead(k) >= Fraction(x, y)]
        return [min(reached)] if reached else [-33]

    def rest(self):
        """The share at which it rests if nothing changes back, or None."""
        if self.v > 0 or self.o * 1000 >= self.w * (1000 - self.u):
            return None
        return Fraction(self.w * (1000 - self.u) - self.o * 1000, 1000 * (self.w - self.o))

    def do_burden(self):
        rest = self.rest()
        return [-33] if rest is None else with_fraction(rest)

    def do_lost(self):
        rest = self.rest()
        return [-33] if rest is None else with_fraction(1 - self.mean(rest) / self.w)

    def do_ratio(self, n):
        return [-22] if n > 10 else with_fraction(Fraction(self.w, self.o) ** n)

    def do_state(self):
        return [self.w, self.o, self.u, self.v]


def is_share(x, y):
    return 1 <= y <= 1000 and x <= y


def with_fraction(f):
    return [0, f.numerator, f.denominator]
