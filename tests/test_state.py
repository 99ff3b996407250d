"""state (point 4), and that what only tells changes nothing."""

import unittest

from helper import GREATEST, ask, last

TELLING = ["told", "mean", "chosen", ("changed", 1, 4), ("changed", 2, 1), ("after", 3), ("after", 4),
           "way", ("wayAt", 1, 4), ("wayAt", 1, 0), ("near", 10), ("near", 101), "even", "burden", "lost",
           ("soon", 1, 1), ("soon", 0, 1), ("soon", 1, 1001), ("ratio", 10), ("ratio", 11), ("evenAfter", 5),
           ("evenAfter", 6), "state"]


class State(unittest.TestCase):
    def test_behind_start(self):
        self.assertEqual(ask(("start", 3, 2), "state"), [[0], [3, 2, 0, 0]])
        self.assertEqual(ask(("start", 1, 100), "state"), [[0], [1, 100, 0, 0]])
        self.assertEqual(ask(("start", 3, 2), ("change", 7, 8), ("start", 5, 4), "state")[2:], [[0], [5, 4, 0, 0]])

    def test_behind_change(self):
        for u, v in ((0, 0), (7, 8), (1000, 0), (0, 1000), (999, 1)):
            self.assertEqual(last(("start", 3, 2), ("change", u, v), "state"), [3, 2, u, v])

    def test_behind_worths(self):
        self.assertEqual(last(("start", 3, 2), ("change", 7, 8), ("worths", 100, 1), "state"), [100, 1, 7, 8])

    def test_behind_those_that_were_refused(self):
        begin = [("start", 3, 2), ("change", 7, 8), ("share", 1, 3)]
        refused = [("start", 0, 1), ("start", 1, 101), ("worths", 0, 1), ("worths", 1, GREATEST), ("change", 1000, 1),
                   ("change", GREATEST, GREATEST), ("share", 1, 0), ("share", 2, 1)]
        for call in refused:
            self.assertEqual(ask(*begin, call, "state", "told")[3:], [[-22], [3, 2, 7, 8], [0, 1, 3]], call)
        self.assertEqual(ask(("start", 0, 1), "state"), [[-22], [-11]])

    def test_behind_go_and_share(self):
        self.assertEqual(
            ask(("start", 3, 2), ("change", 7, 8), ("share", 1, 3), "state", "go", "state", ("share", 1, 1),
                "state")[2:],
            [[0], [3, 2, 7, 8], [0], [3, 2, 7, 8], [0], [3, 2, 7, 8]])

    def test_behind_a_go_that_was_refused(self):
        self.assertEqual(
            ask(("start", 1, 1), ("change", 1, 0), ("share", 1, 1000), "go", "go", "go", "state")[5:],
            [[-28], [1, 1, 1, 0]])


class WhatTells(unittest.TestCase):
    def test_changes_nothing(self):
        begins = (
            [("start", 3, 2), ("change", 100, 0), ("share", 1, 2)],
            [("start", 2, 3), ("change", 100, 300), ("share", 0, 1)],
            [("start", 7, 5), ("share", 1, 3), "go"],
            [("start", 1, 1), ("change", 1, 0), ("share", 1, 1000), "go", "go", "go"],
        )
        for begin in begins:
            for call in TELLING:
                parts = ask(*begin, "state", "told", call, "state", "told", call)[len(begin):]
                self.assertEqual(parts[:3], parts[3:], call)

    def test_nor_all_of_them_one_behind_another(self):
        begin = [("start", 3, 2), ("change", 100, 0), ("share", 1, 2)]
        once = ask(*begin, *TELLING)[3:]
        self.assertEqual(ask(*begin, *TELLING, *TELLING, *TELLING)[3:], once * 3)
        self.assertEqual(ask(*begin, *TELLING, "go", "told")[-1], ask(*begin, "go", "told")[-1])


if __name__ == "__main__":
    unittest.main()
