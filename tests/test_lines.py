"""How a line is handed in and its answers are given back, and lines of all sorts against a model."""

import contextlib
import io
import random
import unittest
from math import gcd
from unittest import mock

from changechoosing.shares import answers
from helper import COUNTS, GREATEST, Model, apart, ask, line


class Watched(list):
    """A list that can be read but not changed, not for a while either."""

    def refuse(self, *args, **kwargs):
        raise AssertionError("the list handed in was changed")

    append = clear = extend = insert = pop = remove = reverse = sort = refuse
    __setitem__ = __delitem__ = __iadd__ = __imul__ = refuse


MIXED = [("start", 3, 2), ("change", 100, 200), ("share", 2, 4), "told", "mean", "chosen", ("changed", 1, 4),
         ("after", 2), ("after", 4), "go", "told", ("worths", 0, 1), ("worths", 5, 4), ("start", 0, 0),
         "way", ("wayAt", 1, 1), ("wayAt", 2, 1), ("near", 10), ("near", 0), "even", "burden", "lost",
         ("soon", 1, 2), ("soon", 1, 1), ("soon", 1, 0), ("ratio", 3), ("ratio", 11), ("evenAfter", 2),
         ("evenAfter", 6), "state", ("change", 100, 0), "burden", "lost"]


class Form(unittest.TestCase):
    def test_counts_and_answers_as_they_stand(self):
        self.assertEqual(answers([4]), [1, -11])
        self.assertEqual(answers([0, 3, 2]), [1, 0])
        self.assertEqual(answers([0, 0, 2]), [1, -22])
        self.assertEqual(
            answers([0, 3, 2, 1, 100, 200, 2, 2, 4, 4, 5, 6, 7, 1, 4, 8, 1, 8, 4, 9, 4, 3, 5, 4, 1, 0, 0, 2, 1, 0]),
            [1, 0, 2, 0, 0, 1, 0, 3, 0, 1, 2, 3, 0, 5, 2, 3, 0, 3, 5, 3, 0, 3, 8, 3, 0, 31, 50, 1, -22,
             1, 0, 3, 0, 31, 50, 2, 3, 2, 2, 100, 200, 1, -22])

    def test_calls_10_to_19_as_they_stand(self):
        begin = [0, 3, 2, 1, 100, 0, 2, 1, 2]
        self.assertEqual(answers(begin), [1, 0, 2, 0, 0, 1, 0])
        told = {
            (10,): [2, 0, 1], (11, 1, 1): [2, 0, -1], (11, 7, 10): [2, 0, 0], (11, 2, 1): [1, -22],
            (12, 10): [1, 7], (12, 0): [1, -22], (13,): [3, 0, 0, 1], (14,): [3, 0, 7, 10], (15,): [3, 0, 1, 10],
            (16, 1, 2): [1, 0], (16, 1, 1): [1, -33], (16, 1, 0): [1, -22], (17, 2): [3, 0, 9, 4], (17, 11): [1, -22],
            (18, 1): [3, 0, 9, 20], (18, 6): [1, -22], (19,): [4, 3, 2, 100, 0],
        }
        for call, numbers in told.items():
            self.assertEqual(answers(begin + list(call))[7:], numbers, call)
        self.assertEqual(answers(begin + [number for call in told for number in call])[7:],
                         [number for numbers in told.values() for number in numbers])

    def test_whole_numbers_alone(self):
        told = answers(line(*MIXED))
        self.assertIs(type(told), list)
        self.assertEqual({type(number) for number in told}, {int})

    def test_one_call(self):
        self.assertEqual(ask("go"), [[-11]])
        self.assertEqual(ask(("start", 100, 1)), [[0]])
        self.assertEqual(ask(("start", 101, 1)), [[-22]])

    def test_200_calls(self):
        self.assertEqual(ask(("start", 1, 2), *["told"] * 199), [[0]] + [[0, 0, 1]] * 199)
        self.assertEqual(ask(*[("share", 1, 2)] * 199, ("start", 1, 2)), [[-11]] * 199 + [[0]])
        parts = ask(("start", 1, 2), *[("change", k, k) for k in range(199)])
        self.assertEqual(parts, [[0], [0, 0]] + [[k, k] for k in range(198)])

    def test_what_is_handed_in_is_not_changed(self):
        calls = line(*MIXED)
        kept = list(calls)
        told = answers(calls)
        self.assertEqual(calls, kept)
        self.assertIsNot(told, calls)
        self.assertEqual(answers(Watched(kept)), told)

    def test_nothing_is_kept(self):
        calls = line(*MIXED)
        told = answers(calls)
        kept = list(told)
        self.assertEqual(answers([4]), [1, -11])
        self.assertEqual(answers(calls), kept)
        told.clear()
        self.assertEqual(answers(calls), kept)
        self.assertEqual(answers([4, 9]), [1, -11, 1, -11])

    def test_prints_and_reads_nothing(self):
        out, err = io.StringIO(), io.StringIO()
        no = mock.Mock(side_effect=AssertionError("read or imported"))
        calls = line(*MIXED)
        with contextlib.redirect_stdout(out), contextlib.redirect_stderr(err), \
                mock.patch("builtins.open", no), mock.patch("builtins.input", no), \
                mock.patch("builtins.__import__", no):
            answers(calls)
        self.assertEqual((out.getvalue(), err.getvalue()), ("", ""))


WITH_FRACTION = ("told", "mean", "chosen", "changed", "after", "even", "burden", "lost", "ratio", "evenAfter")


class AgainstTheModel(unittest.TestCase):
    """Lines drawn by a fixed seed, many of whose numbers lie at the edges."""

    def worth(self, draw):
        return draw.choice((draw.randint(1, 100), draw.randint(1, 100), 1, 100, draw.choice((0, 101, GREATEST))))

    def thousandths(self, draw):
        edge = draw.choice((1000, 1001, GREATEST))
        return draw.choice((draw.randint(0, 500), 0, 0, 500, draw.randint(0, 1001), edge))

    def part(self, draw):
        y = draw.choice((draw.randint(1, 1000), draw.randint(1, 12), 1, 1000, draw.choice((0, 1001, GREATEST))))
        return draw.choice((draw.randint(0, y), draw.randint(0, y), 0, y, y + 1 if y < GREATEST else 1)), y

    def draw_call(self, draw):
        name = draw.choice(tuple(COUNTS) + ("go", "go", "change", "share"))
        if name == "start" and draw.random() < 0.5:
            name = "worths"
        if name in ("start", "worths"):
            return (name, self.worth(draw), self.worth(draw))
        if name == "change":
            return (name, self.thousandths(draw), self.thousandths(draw))
        if COUNTS[name] == 2:
            return (name,) + self.part(draw)
        if COUNTS[name] == 1:
            edges = {"after": (0, 1, 2, 3, 4), "evenAfter": (0, 1, 2, 5, 6), "ratio": (0, 1, 2, 10, 11),
                     "near": (0, 1, 10, 100, 101, draw.randint(1, 100))}[name]
            return (name, draw.choice(edges + (GREATEST,)))
        return (name,)

    def test_many_lines(self):
        draw = random.Random(20)
        seen = {}
        for turn in range(400):
            calls = [self.draw_call(draw) for _ in range(draw.choice((1, 5, 40, 200)))]
            if turn % 4 != 0:
                calls[0] = ("start", draw.randint(1, 100), draw.randint(1, 100))
            model = Model()
            wanted = [model.answer(call) for call in calls]
            handed = line(*calls)
            kept = list(handed)
            self.assertEqual(apart(answers(handed)), wanted, calls)
            self.assertEqual(handed, kept)
            for call, want in zip(calls, wanted):
                seen[call[0], min(want[0], 0)] = True
                if call[0] in ("way", "wayAt") and want[0] == 0:
                    seen[call[0], "to", want[1]] = True
                if call[0] in WITH_FRACTION and want[0] == 0:
                    self.assertEqual(len(want), 3)
                    self.assertEqual(gcd(want[1], want[2]), 1)
                    self.assertGreater(want[2], 0)
        self.check_seen(seen)

    def check_seen(self, seen):
        """The draw is worth something only where it brings every answer about."""
        for name in COUNTS:
            self.assertIn((name, 0), seen)
            if name != "start":
                self.assertIn((name, -11), seen)
            if COUNTS[name] > 0:
                self.assertIn((name, -22), seen)
        self.assertIn(("go", -28), seen)
        for name in ("even", "burden", "lost", "soon"):
            self.assertIn((name, -33), seen)
        for name in ("way", "wayAt"):
            for way in (1, 0, -1):
                self.assertIn((name, "to", way), seen)


if __name__ == "__main__":
    unittest.main()
