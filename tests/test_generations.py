"""told, mean, chosen, changed, after, go: what they answer (points 1 and 2)."""

import unittest
from fractions import Fraction

from helper import GREATEST, ask, last


class ToldMeanChosen(unittest.TestCase):
    def shown(self, w, o, x, y):
        return ask(("start", w, o), ("share", x, y), "told", "mean", "chosen")[2:]

    def test_worths_alike(self):
        self.assertEqual(self.shown(5, 5, 0, 3), [[0, 0, 1], [0, 5, 1], [0, 0, 1]])
        self.assertEqual(self.shown(5, 5, 3, 3), [[0, 1, 1], [0, 5, 1], [0, 1, 1]])
        self.assertEqual(self.shown(5, 5, 2, 6), [[0, 1, 3], [0, 5, 1], [0, 1, 3]])

    def test_first_worth_more(self):
        self.assertEqual(self.shown(3, 2, 0, 1), [[0, 0, 1], [0, 2, 1], [0, 0, 1]])
        self.assertEqual(self.shown(3, 2, 1, 1), [[0, 1, 1], [0, 3, 1], [0, 1, 1]])
        self.assertEqual(self.shown(3, 2, 1, 2), [[0, 1, 2], [0, 5, 2], [0, 3, 5]])
        self.assertEqual(self.shown(100, 1, 1, 1000), [[0, 1, 1000], [0, 1099, 1000], [0, 100, 1099]])

    def test_second_worth_more(self):
        self.assertEqual(self.shown(2, 3, 0, 1), [[0, 0, 1], [0, 3, 1], [0, 0, 1]])
        self.assertEqual(self.shown(2, 3, 1, 1), [[0, 1, 1], [0, 2, 1], [0, 1, 1]])
        self.assertEqual(self.shown(2, 3, 1, 2), [[0, 1, 2], [0, 5, 2], [0, 2, 5]])
        self.assertEqual(self.shown(1, 100, 999, 1000), [[0, 999, 1000], [0, 1099, 1000], [0, 999, 1099]])

    def test_change_is_not_in_them(self):
        self.assertEqual(ask(("start", 3, 2), ("change", 300, 400), ("share", 1, 2), "told", "mean", "chosen")[3:],
                         [[0, 1, 2], [0, 5, 2], [0, 3, 5]])

    def test_they_change_nothing(self):
        self.assertEqual(
            ask(("start", 3, 2), ("share", 1, 2), "chosen", "mean", "told", "chosen", "mean", "told")[2:],
            [[0, 3, 5], [0, 5, 2], [0, 1, 2]] * 2)


class Changed(unittest.TestCase):
    def changed(self, u, v, x, y):
        return last(("start", 3, 2), ("change", u, v), ("changed", x, y))

    def test_no_change(self):
        self.assertEqual(self.changed(0, 0, 0, 5), [0, 0, 1])
        self.assertEqual(self.changed(0, 0, 5, 5), [0, 1, 1])
        self.assertEqual(self.changed(0, 0, 4, 6), [0, 2, 3])

    def test_away_and_back(self):
        self.assertEqual(self.changed(100, 0, 1, 2), [0, 9, 20])
        self.assertEqual(self.changed(0, 100, 1, 2), [0, 11, 20])
        self.assertEqual(self.changed(100, 300, 1, 4), [0, 9, 20])
        self.assertEqual(self.changed(1, 2, 1, 3), [0, 1003, 3000])
        self.assertEqual(self.changed(100, 300, 0, 1), [0, 3, 10])
        self.assertEqual(self.changed(100, 300, 1, 1), [0, 9, 10])

    def test_all_away_and_all_back(self):
        for x, y in ((0, 1), (1, 1), (1, 2), (999, 1000)):
            self.assertEqual(self.changed(1000, 0, x, y), [0, 0, 1])
            self.assertEqual(self.changed(0, 1000, x, y), [0, 1, 1])
            self.assertEqual(self.changed(500, 500, x, y), [0, 1, 2])

    def test_the_parts_at_the_edges(self):
        self.assertEqual(self.changed(1, 0, 999, 1000), [0, 999 * 999, 1000000])
        self.assertEqual(self.changed(1, 0, 1000, 1000), [0, 999, 1000])
        self.assertEqual(self.changed(1, 0, 1, 1), [0, 999, 1000])
        self.assertEqual(self.changed(7, 11, 6, 9), self.changed(7, 11, 2, 3))

    def test_refused(self):
        for x, y in ((0, 0), (5, 0), (0, 1001), (1001, 1001), (2, 1), (1001, 1000), (GREATEST, 1000),
                     (0, GREATEST), (GREATEST, GREATEST)):
            self.assertEqual(self.changed(1, 1, x, y), [-22])

    def test_leaves_the_share(self):
        self.assertEqual(
            ask(("start", 3, 2), ("change", 100, 300), ("share", 1, 3), ("changed", 1, 4), ("changed", 2, 1),
                "told")[3:],
            [[0, 9, 20], [-22], [0, 1, 3]])

    def test_not_chosen(self):
        self.assertEqual(last(("start", 100, 1), ("change", 100, 300), ("changed", 1, 4)), [0, 9, 20])


class After(unittest.TestCase):
    def test_0_is_the_share_itself(self):
        self.assertEqual(last(("start", 3, 2), ("change", 100, 200), ("share", 6, 9), ("after", 0)), [0, 2, 3])
        self.assertEqual(last(("start", 3, 2), ("after", 0)), [0, 0, 1])

    def test_1_2_3_with_no_change(self):
        self.assertEqual(
            ask(("start", 3, 2), ("share", 1, 2), ("after", 1), ("after", 2), ("after", 3))[2:],
            [[0, 3, 5], [0, 9, 13], [0, 27, 35]])

    def test_chosen_first_then_changed(self):
        # 1/2 chosen is 3/5; of it 9/10 are left, and of 2/5 there change 2/10 back.
        self.assertEqual(
            last(("start", 3, 2), ("change", 100, 200), ("share", 1, 2), ("after", 1)), [0, 31, 50])

    def test_2_and_3_with_change(self):
        self.assertEqual(
            ask(("start", 2, 1), ("change", 500, 250), ("after", 1), ("after", 2), ("after", 3))[2:],
            [[0, 1, 4], [0, 7, 20], [0, 41, 108]])

    def test_above_3(self):
        for n in (4, 5, GREATEST):
            self.assertEqual(last(("start", 3, 2), ("share", 1, 2), ("after", n)), [-22])

    def test_the_share_stays(self):
        self.assertEqual(
            ask(("start", 3, 2), ("share", 1, 2), ("after", 3), "told", ("after", 4), "told", ("after", 1),
                ("after", 1))[3:],
            [[0, 1, 2], [-22], [0, 1, 2], [0, 3, 5], [0, 3, 5]])

    def test_a_share_of_0_or_1_stays_with_no_change(self):
        for x in (0, 1):
            for n in (0, 1, 2, 3):
                self.assertEqual(last(("start", 3, 2), ("share", x, 1), ("after", n)), [0, x, 1])

    def test_not_refused_where_go_is(self):
        parts = ask(("start", 1, 1), ("change", 1, 0), ("share", 1, 1000), "go", "go", "go", ("after", 1))
        self.assertEqual(parts[3:], [[0], [0], [-28], [0, 999 ** 3, 1000 ** 4]])


class Go(unittest.TestCase):
    def test_a_generation_goes_by(self):
        self.assertEqual(
            ask(("start", 3, 2), ("share", 1, 2), "go", "told", "go", "told", "go", "told")[2:],
            [[0], [0, 3, 5], [0], [0, 9, 13], [0], [0, 27, 35]])

    def test_after_1_tells_ahead_what_told_tells_behind(self):
        calls = [("start", 7, 5), ("change", 20, 30), ("share", 1, 3)]
        for count in range(3):
            parts = ask(*calls, *["go"] * count, ("after", 1), "go", "told")
            self.assertEqual(parts[-2], [0])
            self.assertEqual(parts[-3], parts[-1])

    def test_a_lower_number_of_just_a_million(self):
        begin = [("start", 1, 1), ("change", 1, 0), ("share", 1, 1000), "go", "told"]
        parts = ask(*begin, "go", "told", "go", "told", "go", "told")[3:]
        self.assertEqual(parts[:2], [[0], [0, 999, 1000000]])
        self.assertEqual(parts[2:4], [[0], [0, 998001, 1000000000]])
        self.assertEqual(parts[4:], [[-28], [0, 998001, 1000000000]] * 2)

    def test_a_lower_number_one_above_a_million(self):
        begin = [("start", 15, 97), ("share", 477, 997), "go", "go", "told"]
        parts = ask(*begin, "go", "told", ("after", 1))[2:]
        self.assertEqual(parts[:3], [[0], [0], [0, 21465, 1000001]])
        chosen = Fraction(15 * 21465, 15 * 21465 + 97 * (1000001 - 21465))
        self.assertEqual(parts[3:], [[-28], [0, 21465, 1000001], [0, chosen.numerator, chosen.denominator]])

    def test_a_lower_number_one_below_a_million(self):
        parts = ask(("start", 23, 97), ("share", 45, 999), "go", "go", "told", "go")[4:]
        self.assertEqual(parts, [[0, 2645, 999999], [0]])

    def test_refused_leaves_all_as_it_was(self):
        begin = [("start", 1, 1), ("change", 1, 0), ("share", 1, 1000), "go", "go"]
        seen = ["told", "mean", "chosen", ("changed", 1, 2), ("after", 3), ("change", 0, 0), ("worths", 1, 1)]
        parts = ask(*begin, "go", *seen)
        self.assertEqual(parts[5], [-28])
        self.assertEqual(parts[6:], ask(*begin, *seen)[5:])

    def test_goes_on_behind_a_new_share(self):
        self.assertEqual(
            ask(("start", 1, 1), ("change", 1, 0), ("share", 1, 1000), "go", "go", "go", ("share", 1, 1), "go",
                "told")[5:],
            [[-28], [0], [0], [0, 999, 1000]])

    def test_never_refused_at_a_rest(self):
        # Where the divisors weren't taken out, the lower number would grow at each of these.
        parts = ask(("start", 4, 4), ("change", 500, 500), *["go"] * 197, "told")
        self.assertEqual(parts, [[0], [0, 0]] + [[0]] * 197 + [[0, 1, 2]])

    def test_all_away_and_all_back(self):
        self.assertEqual(ask(("start", 9, 2), ("share", 1, 2), ("change", 1000, 0), "go", "told", "go", "told")[3:],
                         [[0], [0, 0, 1], [0], [0, 0, 1]])
        self.assertEqual(ask(("start", 2, 9), ("share", 1, 2), ("change", 0, 1000), "go", "told", "go", "told")[3:],
                         [[0], [0, 1, 1], [0], [0, 1, 1]])


class GreatNumbers(unittest.TestCase):
    def test_told_exactly(self):
        self.assertEqual(
            last(("start", 1, 1), ("change", 1, 0), ("share", 1, 1000), "go", "go", ("after", 3)),
            [0, 999 ** 5, 1000 ** 6])

    def test_far_greater_than_2_to_64(self):
        w, o, u, v = 97, 89, 7, 11
        share = Fraction(499, 997)
        count = 0
        while share.denominator <= 10 ** 6:
            share = self.next_share(share, w, o, u, v)
            count += 1
        begin = [("start", w, o), ("change", u, v), ("share", 499, 997)] + ["go"] * count
        self.assertEqual(last(*begin, "go"), [-28])
        for n in range(4):
            self.assertEqual(last(*begin, ("after", n)), [0, share.numerator, share.denominator])
            share = self.next_share(share, w, o, u, v)
        self.assertGreater(last(*begin, ("after", 3))[1], 2 ** 70)
        self.assertGreater(last(*begin, ("after", 3))[2], 2 ** 70)

    def next_share(self, share, w, o, u, v):
        chosen = w * share / (w * share + o * (1 - share))
        return chosen * Fraction(1000 - u, 1000) + (1 - chosen) * Fraction(v, 1000)


if __name__ == "__main__":
    unittest.main()
