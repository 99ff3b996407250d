"""way, wayAt, near: which way the share goes (point 2)."""

import unittest

from helper import GREATEST, ask, last

WRONG_SHARES = ((0, 0), (1, 0), (GREATEST, 0), (0, 1001), (1, 1001), (1001, 1001), (2, 1), (8, 7), (1001, 1000),
                (GREATEST, 1), (GREATEST, 1000), (0, GREATEST), (1, GREATEST), (GREATEST, GREATEST))


class Ways(unittest.TestCase):
    """Each share asked twice: way behind share, and wayAt while the share is another."""

    def check(self, w, o, u, v, ways):
        begin = [("start", w, o), ("change", u, v)]
        for (x, y), way in ways.items():
            where = (w, o, u, v, x, y)
            self.assertEqual(last(*begin, ("share", x, y), "way"), [0, way], where)
            for other in ((0, 1), (1, 1), (1, 3), (700, 1000)):
                self.assertEqual(last(*begin, ("share",) + other, ("wayAt", x, y)), [0, way], where)

    def test_to_a_rest_from_both_sides(self):
        # 3 * 9/10 is what a first brings on; at 7/10 the mean is that too.
        self.check(3, 2, 100, 0, {(0, 1): 0, (1, 1000): 1, (1, 2): 1, (699, 1000): 1, (7, 10): 0, (700, 1000): 0,
                                  (701, 1000): -1, (3, 4): -1, (999, 1000): -1, (1, 1): -1, (5, 5): -1})

    def test_both_change(self):
        # Whatever is chosen, half of it is left, and half of the rest changes back.
        self.check(2, 1, 500, 500, {(0, 1): 1, (499, 1000): 1, (1, 2): 0, (501, 1000): -1, (1, 1): -1})
        # 1/4 chosen is 1/2, and 1/4 + 1/8 is more; 1/2 chosen is 3/4, and 3/8 + 1/16 is less.
        self.check(3, 1, 500, 250, {(0, 1): 1, (1, 4): 1, (1, 2): -1, (1, 1): -1})

    def test_only_back(self):
        self.check(3, 2, 0, 100, {(0, 1): 1, (1, 2): 1, (999, 1000): 1, (1, 1): 0})
        # 1/2 chosen is 1/3; of 2/3 a quarter changes back: 1/3 + 1/6 = 1/2.
        self.check(1, 2, 0, 250, {(0, 1): 1, (499, 1000): 1, (1, 2): 0, (501, 1000): -1, (999, 1000): -1, (1, 1): 0})

    def test_worths_alike(self):
        self.check(7, 7, 100, 300, {(0, 1): 1, (749, 1000): 1, (3, 4): 0, (751, 1000): -1, (1, 1): -1})
        self.check(7, 7, 1, 0, {(0, 1): 0, (1, 1000): -1, (1, 1): -1})
        self.check(7, 7, 0, 1, {(0, 1): 1, (999, 1000): 1, (1, 1): 0})

    def test_no_change(self):
        self.check(5, 5, 0, 0, {(0, 1): 0, (1, 3): 0, (1, 1): 0})
        self.check(100, 99, 0, 0, {(0, 1): 0, (1, 1000): 1, (1, 2): 1, (999, 1000): 1, (1, 1): 0})
        self.check(99, 100, 0, 0, {(0, 1): 0, (1, 1000): -1, (1, 2): -1, (999, 1000): -1, (1, 1): 0})

    def test_all_change(self):
        self.check(100, 1, 1000, 0, {(0, 1): 0, (1, 1000): -1, (1, 1): -1})
        self.check(1, 100, 0, 1000, {(0, 1): 1, (999, 1000): 1, (1, 1): 0})

    def test_the_second_worth_more(self):
        self.check(2, 3, 100, 0, {(0, 1): 0, (1, 1000): -1, (1, 2): -1, (1, 1): -1})

    def test_a_first_that_can_not_hold(self):
        self.check(5, 4, 200, 0, {(0, 1): 0, (1, 1000): -1, (1, 2): -1, (1, 1): -1})
        self.check(5, 4, 199, 0, {(0, 1): 0, (4, 1000): 1, (1, 200): 0, (6, 1000): -1, (1, 1): -1})


class Way(unittest.TestCase):
    def test_at_the_share_of_a_new_object(self):
        self.assertEqual(ask(("start", 3, 2), "way", ("change", 5, 0), "way", ("change", 5, 1), "way"),
                         [[0], [0, 0], [0, 0], [0, 0], [5, 0], [0, 1]])

    def test_behind_go_and_worths(self):
        self.assertEqual(
            ask(("start", 3, 2), ("share", 1, 2), ("change", 1000, 0), "way", "go", "way", ("change", 0, 1000), "way",
                "go", "way", ("share", 1, 2), ("change", 0, 0), "way", ("worths", 2, 3), "way", ("worths", 1, 1),
                "way")[3:],
            [[0, -1], [0], [0, 0], [1000, 0], [0, 1], [0], [0, 0], [0], [0, 1000], [0, 1], [3, 2], [0, -1], [2, 3],
             [0, 0]])

    def test_where_go_is_refused(self):
        begin = [("start", 1, 1), ("change", 1, 0), ("share", 1, 1000), "go", "go", "go"]
        self.assertEqual(ask(*begin, "way", "told")[5:], [[-28], [0, -1], [0, 998001, 1000000000]])

    def test_a_difference_smaller_than_any_rounding_shows(self):
        # The share lacks less than 1 of thousand to 1, and of that 1 of thousand changes back.
        begin = [("start", 1, 1), ("change", 0, 1), ("share", 999, 1000), "go", "go"]
        self.assertEqual(ask(*begin, "told", "way")[5:], [[0, 1000000000 - 998001, 1000000000], [0, 1]])
        self.assertEqual(ask(*begin, ("change", 0, 0), "way", ("worths", 99, 100), "way")[5:],
                         [[0, 1], [0, 0], [1, 1], [0, -1]])


class WayAt(unittest.TestCase):
    def test_the_shares_at_the_edges(self):
        begin = [("start", 3, 2), ("change", 100, 0)]
        for (x, y), way in {(0, 1): 0, (1, 1): -1, (0, 1000): 0, (1, 1000): 1, (1000, 1000): -1, (14, 20): 0}.items():
            self.assertEqual(last(*begin, ("wayAt", x, y)), [0, way], (x, y))

    def test_refused(self):
        for x, y in WRONG_SHARES:
            self.assertEqual(ask(("start", 3, 2), ("share", 1, 2), ("wayAt", x, y), "told")[2:], [[-22], [0, 1, 2]])

    def test_the_share_stays(self):
        self.assertEqual(
            ask(("start", 3, 2), ("change", 100, 0), ("share", 1, 2), ("wayAt", 1, 1), "told", "way",
                ("wayAt", 0, 1), "told", "way")[3:],
            [[0, -1], [0, 1, 2], [0, 1], [0, 0], [0, 1, 2], [0, 1]])


class Near(unittest.TestCase):
    def check(self, w, o, u, v, parts):
        begin = [("start", w, o), ("change", u, v)]
        for n, k in parts.items():
            for share in ((0, 1), (1, 2), (7, 10), (1, 1)):
                self.assertEqual(last(*begin, ("share",) + share, ("near", n)), [k], (w, o, u, v, n, share))

    def test_a_rest_that_is_a_part_and_between_parts(self):
        self.check(3, 2, 100, 0, {1: 0, 2: 1, 3: 2, 7: 4, 9: 6, 10: 7, 11: 7, 20: 14, 99: 69, 100: 70})
        self.check(2, 1, 500, 500, {1: 0, 2: 1, 3: 1, 4: 2, 5: 2, 99: 49, 100: 50})
        self.check(5, 5, 1, 999, {1: 0, 2: 1, 100: 99})

    def test_no_change(self):
        for n in (1, 2, 50, 99, 100):
            self.check(3, 2, 0, 0, {n: n})
            self.check(100, 1, 0, 0, {n: n})
            self.check(4, 4, 0, 0, {n: n})

    def test_the_second_worth_more(self):
        # At all of n parts the share is the same again, but at fewer it is less: all fewer count.
        self.check(2, 3, 0, 0, {1: 1, 2: 0, 3: 0, 100: 0})
        self.check(99, 100, 0, 0, {1: 1, 2: 0, 100: 0})
        # Of two parts the share is the same at one, and at both.
        self.check(1, 2, 0, 250, {1: 1, 2: 2, 3: 1, 4: 2, 99: 49, 100: 50})

    def test_less_already_at_one_part(self):
        for n in (1, 2, 100):
            self.check(3, 2, 1000, 0, {n: 0})
            self.check(5, 4, 200, 0, {n: 0})
            self.check(4, 4, 1, 0, {n: 0})
            self.check(5, 4, 199, 0, {n: 0})
        self.check(5, 4, 198, 0, {99: 0, 100: 1})

    def test_all_back(self):
        for n in (1, 2, 100):
            self.check(3, 2, 0, 1000, {n: n})
            self.check(1, 100, 0, 1000, {n: n})
            self.check(3, 2, 0, 1, {n: n})

    def test_refused(self):
        for n in (0, 101, 102, 1000, GREATEST):
            self.assertEqual(ask(("start", 3, 2), ("near", n), "told"), [[0], [-22], [0, 0, 1]])


if __name__ == "__main__":
    unittest.main()
