"""burden, lost, ratio (point 3)."""

import unittest
from fractions import Fraction

from helper import GREATEST, ask, last

SHARES = ((0, 1), (1, 3), (1, 1))


class BurdenAndLost(unittest.TestCase):
    def check(self, w, o, u, v, burden, lost):
        for share in SHARES:
            begin = [("start", w, o), ("change", u, v), ("share",) + share]
            self.assertEqual(ask(*begin, "burden", "lost")[3:], [burden, lost], (w, o, u, v, share))

    def refused(self, w, o, u, v):
        self.check(w, o, u, v, [-33], [-33])

    def test_only_away(self):
        self.check(3, 2, 100, 0, [0, 7, 10], [0, 1, 10])
        self.check(2, 1, 1, 0, [0, 499, 500], [0, 1, 1000])
        self.check(4, 1, 250, 0, [0, 2, 3], [0, 1, 4])
        self.check(100, 1, 989, 0, [0, 1, 990], [0, 989, 1000])

    def test_something_changes_back(self):
        for u in (0, 1, 100):
            for v in (1, 2, 900):
                self.refused(3, 2, u, v)
                self.refused(100, 1, u, v)
        self.refused(100, 1, 0, 1000)

    def test_just_as_much_and_a_step_of_the_change_to_either_side(self):
        self.check(5, 4, 199, 0, [0, 1, 200], [0, 199, 1000])
        self.refused(5, 4, 200, 0)
        self.refused(5, 4, 201, 0)
        self.check(100, 1, 989, 0, [0, 1, 990], [0, 989, 1000])
        self.refused(100, 1, 990, 0)
        self.refused(100, 1, 991, 0)

    def test_just_as_much_and_a_step_of_the_worths_to_either_side(self):
        self.refused(4, 4, 200, 0)
        self.refused(5, 4, 200, 0)
        self.check(6, 4, 200, 0, [0, 2, 5], [0, 1, 5])
        self.check(5, 3, 200, 0, [0, 1, 2], [0, 1, 5])
        self.refused(5, 5, 200, 0)

    def test_a_change_that_hits_no_rest_just(self):
        self.check(3, 2, 333, 0, [0, 1, 1000], [0, 333, 1000])
        self.refused(3, 2, 334, 0)

    def test_nothing_changes(self):
        self.check(3, 2, 0, 0, [0, 1, 1], [0, 0, 1])
        self.check(100, 1, 0, 0, [0, 1, 1], [0, 0, 1])
        self.check(100, 99, 0, 0, [0, 1, 1], [0, 0, 1])

    def test_worths_alike_and_the_second_worth_more(self):
        for u in (0, 1, 999, 1000):
            self.refused(1, 1, u, 0)
            self.refused(100, 100, u, 0)
            self.refused(2, 3, u, 0)
            self.refused(1, 100, u, 0)

    def test_all_away(self):
        self.refused(100, 1, 1000, 0)
        self.refused(100, 1, 999, 0)

    def test_lost_is_as_much_as_changes_whatever_the_worths(self):
        for w in (2, 3, 7, 64, 99, 100):
            for o in (1, 2, 3, 50, 63, 98, 99):
                for u in (0, 1, 9, 10, 100, 333, 500, 900, 989):
                    answer = last(("start", w, o), ("change", u, 0), "lost")
                    changes = Fraction(u, 1000)
                    if o * 1000 < w * (1000 - u):
                        self.assertEqual(answer, [0, changes.numerator, changes.denominator], (w, o, u))
                    else:
                        self.assertEqual(answer, [-33], (w, o, u))

    def test_burden_is_where_it_rests(self):
        tried = 0
        for w in (3, 5, 8, 100):
            for o in (1, 2, 4, 75):
                for u in (0, 5, 10, 20, 50, 100, 250):
                    begin = [("start", w, o), ("change", u, 0)]
                    answer = last(*begin, "burden")
                    if answer[0] == 0 and answer[2] <= 1000:
                        self.assertEqual(last(*begin, ("wayAt", answer[1], answer[2])), [0, 0], (w, o, u))
                        tried += 1
        self.assertGreater(tried, 20)


class Ratio(unittest.TestCase):
    def check(self, w, o, answers):
        for share in SHARES:
            for change in ((0, 0), (100, 300), (1000, 0)):
                begin = [("start", w, o), ("share",) + share, ("change",) + change]
                for n, answer in answers.items():
                    self.assertEqual(last(*begin, ("ratio", n)), answer, (w, o, n))

    def test_first_worth_more(self):
        self.check(3, 2, {0: [0, 1, 1], 1: [0, 3, 2], 2: [0, 9, 4], 9: [0, 19683, 512], 10: [0, 59049, 1024]})

    def test_second_worth_more(self):
        self.check(2, 3, {0: [0, 1, 1], 1: [0, 2, 3], 10: [0, 1024, 59049]})

    def test_a_common_divisor(self):
        self.check(6, 4, {0: [0, 1, 1], 1: [0, 3, 2], 2: [0, 9, 4], 10: [0, 59049, 1024]})
        self.check(100, 50, {1: [0, 2, 1], 10: [0, 1024, 1]})
        self.check(12, 90, {1: [0, 2, 15], 3: [0, 8, 3375]})

    def test_worths_alike(self):
        for worth in (1, 7, 100):
            self.check(worth, worth, {0: [0, 1, 1], 1: [0, 1, 1], 10: [0, 1, 1]})

    def test_great_numbers_are_told_exactly(self):
        self.check(100, 1, {9: [0, 10 ** 18, 1], 10: [0, 10 ** 20, 1]})
        self.check(1, 100, {9: [0, 1, 10 ** 18], 10: [0, 1, 10 ** 20]})
        self.check(99, 100, {10: [0, 99 ** 10, 10 ** 20]})

    def test_behind_worths(self):
        self.assertEqual(ask(("start", 3, 2), ("worths", 7, 5), ("ratio", 2))[2:], [[0, 49, 25]])

    def test_refused(self):
        for n in (11, 12, 1000, GREATEST):
            self.assertEqual(ask(("start", 3, 2), ("ratio", n), "state"), [[0], [-22], [3, 2, 0, 0]])


if __name__ == "__main__":
    unittest.main()
