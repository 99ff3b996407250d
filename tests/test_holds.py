"""What holds over the whole program: a, b and c, and the corners."""

import unittest
from fractions import Fraction

from helper import ask, last

WORTHS = ((1, 1), (3, 2), (2, 3), (100, 1), (1, 100), (99, 100))
BOTH = ((1, 1), (100, 300), (300, 100), (500, 500), (1, 999), (999, 1), (333, 334))
CHANGES = BOTH + ((0, 0), (1, 0), (0, 1), (250, 0), (0, 250), (1000, 0), (0, 1000))
SHARES = ((0, 1), (1, 1000), (1, 4), (1, 3), (1, 2), (2, 3), (7, 10), (3, 4), (999, 1000), (1, 1))


def fraction(answer):
    zero, upper, lower = answer
    if zero != 0:
        raise ValueError(f"{answer}: no fraction")
    return Fraction(upper, lower)


def settings(changes):
    return [[("start", w, o), ("change", u, v)] for w, o in WORTHS for u, v in changes]


class RestFromBothSides(unittest.TestCase):
    def test_one_rest_at_most_if_both_change(self):
        for begin in settings(BOTH):
            ways = [answer[1] for answer in ask(*begin, *[("wayAt", k, 90) for k in range(91)])[2:]]
            self.assertEqual(ways, sorted(ways, reverse=True), begin)
            self.assertLessEqual(ways.count(0), 1, begin)
            self.assertEqual((ways[0], ways[-1]), (1, -1), begin)

    def test_near_is_the_last_part_ahead_of_the_rest(self):
        for begin in settings(BOTH):
            for n in (1, 2, 10, 100):
                k = last(*begin, ("near", n))[0]
                self.assertGreaterEqual(last(*begin, ("wayAt", k, n))[1], 0)
                self.assertLess(k, n)
                self.assertEqual(last(*begin, ("wayAt", k + 1, n)), [0, -1])

    def test_never_beyond(self):
        for begin in settings(BOTH):
            for x, y in SHARES:
                parts = ask(*begin, ("share", x, y), "way", "told", "go", "way", "told")[3:]
                before, after = parts[0][1], parts[3][1]
                where = (begin, x, y)
                self.assertIn((before, after), ((1, 1), (1, 0), (0, 0), (-1, 0), (-1, -1)), where)
                moved = fraction(parts[4]) - fraction(parts[1])
                self.assertEqual((moved > 0) - (moved < 0), before, where)

    def test_of_two_shares_the_greater_stays_no_less(self):
        for begin in settings(CHANGES):
            for n in range(4):
                ahead = [fraction(last(*begin, ("share", x, y), ("after", n))) for x, y in SHARES]
                self.assertEqual(ahead, sorted(ahead), begin)
            for n in range(6):
                ahead = [fraction(last(*begin, ("share", x, y), ("evenAfter", n))) for x, y in SHARES]
                self.assertEqual(ahead, sorted(ahead), begin)


class LostByChange(unittest.TestCase):
    def test_as_much_as_changes(self):
        for u in (0, 1, 8, 125, 500):
            for o in range(1, 101):
                parts = ask(("start", 100, o), ("change", u, 0), "burden", "lost")[2:]
                if 1000 * o < 100 * (1000 - u):
                    self.assertEqual(fraction(parts[1]), Fraction(u, 1000))
                    self.assertLessEqual(fraction(parts[0]), 1)
                    self.assertGreater(fraction(parts[0]), 0)
                else:
                    self.assertEqual(parts, [[-33], [-33]])


class TheSamePartEachGeneration(unittest.TestCase):
    def test_with_no_choosing(self):
        for begin in settings(CHANGES):
            u, v = begin[1][1:]
            if u + v == 0:
                continue
            rest = fraction(last(*begin, "even"))
            self.assertEqual(fraction(last(*begin, ("changed", rest.numerator, rest.denominator))), rest)
            for x, y in SHARES:
                parts = ask(*begin, ("share", x, y), *[("evenAfter", n) for n in range(6)])[3:]
                apart = [fraction(part) - rest for part in parts]
                for n in range(6):
                    self.assertEqual(apart[n], apart[0] * Fraction(1000 - u - v, 1000) ** n)

    def test_soon_is_where_even_after_has_come(self):
        for begin in settings(CHANGES):
            for x, y in SHARES:
                parts = ask(*begin, ("share", 1, 3), *[("evenAfter", n) for n in range(6)], ("soon", x, y))[3:]
                come = [n for n in range(6) if fraction(parts[n]) >= Fraction(x, y)]
                self.assertEqual(parts[6], [come[0] if come else -33])

    def test_with_no_change(self):
        for begin in settings(((0, 0),)):
            for x, y in SHARES:
                for n in range(4):
                    parts = ask(*begin, ("share", x, y), ("after", n), ("ratio", n))[3:]
                    share, ratio = fraction(parts[0]), fraction(parts[1])
                    # So many times as many: share by what it lacks to 1; said without a division by 0.
                    self.assertEqual(share * (y - x), (1 - share) * x * ratio)


if __name__ == "__main__":
    unittest.main()
