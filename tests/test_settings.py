"""start, worths, change, share: what they take, refuse and answer (point 1)."""

import unittest

from helper import COUNTS, GREATEST, ask, last

# What can be seen of all that an object keeps.
SEEN = ["told", "state", "mean", "chosen", ("changed", 1, 3), ("changed", 0, 1), ("after", 1)]


def every_other_call(number):
    return [(name,) + (number,) * count for name, count in COUNTS.items() if name != "start"]


class BeforeStart(unittest.TestCase):
    def test_every_other_call_whatever_its_numbers(self):
        for number in (0, 1, 2, 1000, 1001, GREATEST):
            calls = every_other_call(number)
            self.assertEqual(len(calls), 19)
            self.assertEqual(ask(*calls), [[-11]] * 19)
            for call in calls:
                self.assertEqual(ask(call), [[-11]], call)

    def test_after_a_start_that_was_refused(self):
        for number in (0, 1, GREATEST):
            calls = every_other_call(number)
            self.assertEqual(ask(("start", 0, 5), *calls), [[-22]] + [[-11]] * 19)
            for call in calls:
                self.assertEqual(ask(("start", 101, 101), call), [[-22], [-11]], call)

    def test_a_call_answered_so_leaves_nothing_behind(self):
        self.assertEqual(
            ask(("change", 10, 20), ("share", 1, 2), ("worths", 7, 8), "go", ("start", 3, 2), "told",
                ("change", 0, 0), ("worths", 1, 1)),
            [[-11]] * 4 + [[0], [0, 0, 1], [0, 0], [3, 2]])

    def test_a_start_behind_a_refused_one(self):
        self.assertEqual(ask(("start", 0, 0), "told", ("start", 1, 1), "told"), [[-22], [-11], [0], [0, 0, 1]])


class Start(unittest.TestCase):
    def test_worths_at_the_edges(self):
        good = (1, 2, 99, 100)
        wrong = (0, 101, 4294967295)
        for w in good:
            for o in good:
                self.assertEqual(ask(("start", w, o), ("worths", 1, 1)), [[0], [w, o]])
            for bad in wrong:
                self.assertEqual(ask(("start", w, bad), "told"), [[-22], [-11]])
                self.assertEqual(ask(("start", bad, w), "told"), [[-22], [-11]])
        for one in wrong:
            for other in wrong:
                self.assertEqual(ask(("start", one, other), "told"), [[-22], [-11]])

    def test_no_change_and_share_0(self):
        self.assertEqual(ask(("start", 3, 2), "told", ("change", 1, 1)), [[0], [0, 0, 1], [0, 0]])

    def test_a_new_start_later(self):
        self.assertEqual(
            ask(("start", 3, 2), ("change", 100, 200), ("share", 1, 2), ("start", 5, 4), "told", "mean",
                ("changed", 1, 2), ("after", 3), ("change", 0, 0), ("worths", 1, 1)),
            [[0], [0, 0], [0], [0], [0, 0, 1], [0, 4, 1], [0, 1, 2], [0, 0, 1], [0, 0], [5, 4]])

    def test_a_refused_start_leaves_all_as_it_was(self):
        begin = [("start", 3, 2), ("change", 100, 200), ("share", 1, 2)]
        for w, o in ((0, 1), (1, 0), (101, 1), (1, 101), (GREATEST, GREATEST)):
            self.assertEqual(ask(*begin, ("start", w, o), *SEEN)[3:], [[-22]] + ask(*begin, *SEEN)[3:])


class Worths(unittest.TestCase):
    def test_answers_what_the_two_were(self):
        self.assertEqual(
            ask(("start", 3, 2), ("worths", 100, 1), ("worths", 1, 100), ("worths", 7, 7), ("worths", 7, 7)),
            [[0], [3, 2], [100, 1], [1, 100], [7, 7]])

    def test_refused_at_the_edges(self):
        for bad in (0, 101, GREATEST):
            for w, o in ((bad, 1), (1, bad), (100, bad), (bad, 100), (bad, bad)):
                self.assertEqual(ask(("start", 3, 2), ("worths", w, o), ("worths", 1, 1)), [[0], [-22], [3, 2]])

    def test_leaves_change_and_share(self):
        self.assertEqual(
            ask(("start", 3, 2), ("change", 10, 20), ("share", 1, 4), ("worths", 5, 1), "told", "mean",
                ("change", 0, 0))[3:],
            [[3, 2], [0, 1, 4], [0, 2, 1], [10, 20]])

    def test_refused_leaves_all_as_it_was(self):
        begin = [("start", 3, 2), ("change", 100, 200), ("share", 1, 2)]
        self.assertEqual(ask(*begin, ("worths", 5, 0), *SEEN)[4:], ask(*begin, *SEEN)[3:])


class Change(unittest.TestCase):
    def test_answers_the_two_from_before(self):
        self.assertEqual(
            ask(("start", 1, 1), ("change", 1, 2), ("change", 30, 4), ("change", 0, 0), ("change", 5, 5)),
            [[0], [0, 0], [1, 2], [30, 4], [0, 0]])

    def test_a_thousand_together(self):
        for u, v in ((1000, 0), (0, 1000), (500, 500), (999, 1), (1, 999)):
            self.assertEqual(ask(("start", 1, 1), ("change", u, v), ("change", 0, 0)), [[0], [0, 0], [u, v]])

    def test_more_than_a_thousand_together(self):
        wrong = ((1001, 0), (0, 1001), (1000, 1), (1, 1000), (501, 500), (GREATEST, 0), (0, GREATEST),
                 (GREATEST, GREATEST), (GREATEST, 1))
        for u, v in wrong:
            self.assertEqual(ask(("start", 1, 1), ("change", 7, 8), ("change", u, v), ("change", 0, 0)),
                             [[0], [0, 0], [-22], [7, 8]])

    def test_leaves_worths_and_share(self):
        self.assertEqual(ask(("start", 3, 2), ("share", 1, 4), ("change", 10, 20), "told", ("worths", 1, 1))[2:],
                         [[0, 0], [0, 1, 4], [3, 2]])

    def test_refused_leaves_all_as_it_was(self):
        begin = [("start", 3, 2), ("change", 100, 200), ("share", 1, 2)]
        self.assertEqual(ask(*begin, ("change", 501, 500), *SEEN)[4:], ask(*begin, *SEEN)[3:])


class Share(unittest.TestCase):
    def test_taken_and_told_without_a_common_divisor(self):
        told = {(0, 1): (0, 1), (1, 1): (1, 1), (0, 7): (0, 1), (7, 7): (1, 1), (6, 9): (2, 3),
                (0, 1000): (0, 1), (1000, 1000): (1, 1), (999, 1000): (999, 1000), (500, 1000): (1, 2),
                (1, 1000): (1, 1000), (12, 18): (2, 3), (8, 1000): (1, 125)}
        for (x, y), (upper, lower) in told.items():
            self.assertEqual(ask(("start", 3, 2), ("share", x, y), "told"), [[0], [0], [0, upper, lower]])

    def test_refused(self):
        wrong = ((0, 0), (1, 0), (0, 1001), (1, 1001), (1001, 1001), (1002, 1001), (2, 1), (1001, 1000),
                 (8, 7), (GREATEST, 1), (0, GREATEST), (GREATEST, GREATEST), (GREATEST, 0))
        for x, y in wrong:
            self.assertEqual(ask(("start", 3, 2), ("share", 2, 5), ("share", x, y), "told"),
                             [[0], [0], [-22], [0, 2, 5]])

    def test_leaves_worths_and_change(self):
        self.assertEqual(
            ask(("start", 3, 2), ("change", 10, 20), ("share", 1, 4), ("change", 0, 0), ("worths", 1, 1))[2:],
            [[0], [10, 20], [3, 2]])

    def test_a_new_share_in_place_of_the_old(self):
        self.assertEqual(last(("start", 3, 2), ("share", 1, 4), ("share", 2, 3), "told"), [0, 2, 3])


if __name__ == "__main__":
    unittest.main()
