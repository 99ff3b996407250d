"""even, evenAfter, soon: the share with no choosing (point 3)."""

import unittest

from helper import GREATEST, ask, last
from test_ways import WRONG_SHARES

WORTHS = ((1, 1), (3, 2), (2, 3), (100, 1), (1, 100))
SHARES = ((0, 1), (1, 3), (1, 1))


class Even(unittest.TestCase):
    def check(self, u, v, answer):
        for worths in WORTHS:
            for share in SHARES:
                self.assertEqual(last(("start",) + worths, ("share",) + share, ("change", u, v), "even"), answer)

    def test_nothing_changes(self):
        self.check(0, 0, [-33])
        self.assertEqual(last(("start", 3, 2), "even"), [-33])
        self.assertEqual(last(("start", 3, 2), ("change", 1, 1), ("change", 0, 0), "even"), [-33])

    def test_only_away(self):
        for u in (1, 2, 999, 1000):
            self.check(u, 0, [0, 0, 1])

    def test_only_back(self):
        for v in (1, 2, 999, 1000):
            self.check(0, v, [0, 1, 1])

    def test_both(self):
        self.check(1, 2, [0, 2, 3])
        self.check(2, 1, [0, 1, 3])
        self.check(1, 999, [0, 999, 1000])
        self.check(999, 1, [0, 1, 1000])
        self.check(498, 499, [0, 499, 997])

    def test_a_common_divisor(self):
        self.check(100, 300, [0, 3, 4])
        self.check(6, 9, [0, 3, 5])
        self.check(500, 500, [0, 1, 2])
        self.check(1, 1, [0, 1, 2])


class EvenAfter(unittest.TestCase):
    def check(self, u, v, share, answers):
        for worths in WORTHS:
            begin = [("start",) + worths, ("change", u, v), ("share",) + share]
            for n, answer in enumerate(answers):
                self.assertEqual(ask(*begin, ("evenAfter", n), "told")[3:], [answer, answers[0]], (worths, n))

    def test_both_change(self):
        # From 3/4, where it rests, it is 1/2 at first, and then 6/10 of that each generation.
        self.check(100, 300, (1, 4), [[0, 1, 4], [0, 9, 20], [0, 57, 100], [0, 321, 500], [0, 1713, 2500],
                                      [0, 8889, 12500]])

    def test_only_away_and_only_back(self):
        self.check(100, 0, (1, 2), [[0, 1, 2], [0, 9, 20], [0, 81, 200], [0, 729, 2000], [0, 6561, 20000],
                                    [0, 59049, 200000]])
        self.check(0, 500, (0, 1), [[0, 0, 1], [0, 1, 2], [0, 3, 4], [0, 7, 8], [0, 15, 16], [0, 31, 32]])

    def test_no_change_and_all_change(self):
        self.check(0, 0, (6, 9), [[0, 2, 3]] * 6)
        self.check(1000, 0, (6, 9), [[0, 2, 3]] + [[0, 0, 1]] * 5)
        self.check(0, 1000, (6, 9), [[0, 2, 3]] + [[0, 1, 1]] * 5)
        self.check(250, 750, (6, 9), [[0, 2, 3]] + [[0, 3, 4]] * 5)

    def test_great_numbers_are_told_exactly(self):
        self.check(1, 0, (1, 1000), [[0, 999 ** n, 1000 ** (n + 1)] for n in range(6)])

    def test_where_go_is_refused(self):
        begin = [("start", 1, 1), ("change", 1, 0), ("share", 1, 1000), "go", "go", "go"]
        self.assertEqual(ask(*begin, ("evenAfter", 5))[5:], [[-28], [0, 999 ** 7, 1000 ** 8]])

    def test_refused(self):
        for n in (6, 7, 1000, GREATEST):
            self.assertEqual(ask(("start", 3, 2), ("share", 1, 2), ("evenAfter", n), "told")[2:],
                             [[-22], [0, 1, 2]])


class Soon(unittest.TestCase):
    def check(self, u, v, share, answers):
        for worths in WORTHS:
            begin = [("start",) + worths, ("change", u, v), ("share",) + share]
            for (x, y), answer in answers.items():
                self.assertEqual(last(*begin, ("soon", x, y)), [answer], (worths, u, v, share, x, y))

    def test_up_to_its_rest(self):
        # Generation by generation the share is .25, .45, .57, .642, .6852, .71112.
        self.check(100, 300, (1, 4), {
            (0, 1): 0, (1, 5): 0, (1, 4): 0, (250, 1000): 0, (251, 1000): 1, (45, 100): 1, (9, 20): 1, (451, 1000): 2,
            (57, 100): 2, (571, 1000): 3, (642, 1000): 3, (643, 1000): 4, (685, 1000): 4, (686, 1000): 5,
            (711, 1000): 5, (712, 1000): -33, (3, 4): -33, (1, 1): -33})

    def test_just_reached_after_5(self):
        self.check(0, 500, (0, 1), {(1, 2): 1, (3, 4): 2, (7, 8): 3, (15, 16): 4, (31, 32): 5, (32, 33): -33,
                                    (63, 64): -33, (1, 1): -33})

    def test_a_share_of_0_is_always_reached(self):
        for share in SHARES:
            self.check(0, 0, share, {(0, 1): 0, (0, 7): 0, (0, 1000): 0})
            self.check(1000, 0, share, {(0, 1): 0, (0, 1000): 0})

    def test_down(self):
        self.check(100, 0, (1, 2), {(1, 2): 0, (9, 20): 0, (1, 3): 0, (501, 1000): -33, (1, 1): -33})
        self.check(1000, 0, (1, 1), {(1, 1): 0, (999, 1000): 0})

    def test_no_change(self):
        self.check(0, 0, (1, 3), {(1, 3): 0, (333, 999): 0, (333, 1000): 0, (334, 1000): -33, (1, 1): -33})

    def test_all_back(self):
        self.check(0, 1000, (0, 1), {(0, 1): 0, (1, 1000): 1, (1, 1): 1})
        self.check(0, 1000, (1, 1), {(1, 1): 0})

    def test_refused_ahead_of_not_within_5(self):
        for x, y in WRONG_SHARES:
            for share in SHARES:
                self.assertEqual(ask(("start", 3, 2), ("share",) + share, ("soon", x, y))[2:], [[-22]])

    def test_the_share_stays(self):
        self.assertEqual(
            ask(("start", 3, 2), ("change", 0, 500), ("soon", 31, 32), "told", ("soon", 1, 1), "told", ("soon", 2, 1),
                "told")[2:],
            [[5], [0, 0, 1], [-33], [0, 0, 1], [-22], [0, 0, 1]])


if __name__ == "__main__":
    unittest.main()
