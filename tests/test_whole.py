"""Over the whole: what is told of rows, how it is checked, and what becomes of their runs."""

import itertools
import random
import unittest

from drawing import drawn_coming, drawn_pile, drawn_row, gentle_rows
from reference import KINDS, kind_of
from rowguard.checking import fault_stands, table_stands
from rowguard.errors import NotFine
from rowguard.guard import guarded
from rowguard.looking import looked
from rowguard.machine import run, states

LONGEST = 4000


class Whole(unittest.TestCase):
    def assert_agreed(self, draw, rows, given):
        """What is told, checked, and runs on three drawn piles with three things that come in; the word told."""
        told = looked(rows, given)
        note = (rows, given, told)
        runs = [(drawn_pile(draw, given), drawn_coming(draw)) for turn in range(3)]
        if told[0] == "fine":
            self.assertIs(table_stands(rows, given, told[1]), True, note)
            for pile, coming in runs:
                self.assert_never_falls(rows, given, told[1], pile, coming)
        else:
            self.assertEqual(told[0], "fault", note)
            self.assertIs(fault_stands(rows, given, told[1]), True, note)
            with self.assertRaises(NotFine):
                guarded(rows, given, runs[0][0], runs[0][1], 20)
        for pile, coming in runs:
            if run(rows, pile, coming, 20)[0] == "fell":
                self.assertEqual(told[0], "fault", note)
        return told[0]

    def assert_never_falls(self, rows, given, table, pile, coming):
        # Twenty rows more each time, until a text has grown too long to go on with.
        for most in range(0, 201, 20):
            what = run(rows, pile, coming, most)
            self.assertIn(what[0], ("ended", "stopped"), (rows, pile, coming))
            if what[0] == "ended" or any(len(str(thing)) > LONGEST for thing in what[2]):
                break
        self.assertEqual(guarded(rows, given, pile, coming, most), what)
        for spot, left in states(rows, pile, coming, most):
            if spot < len(rows):
                self.assertEqual([kind_of(thing) for thing in left], table[spot], (rows, pile, coming))

    def test_all_short_rows(self):
        draw = random.Random(50)
        words = [("push", 1), ("push", "a"), ("take", "truth"), ("add",), ("not",), ("same",), ("copy", 1), ("drop",),
                 ("swap",), ("go", 0), ("go", 2), ("go", 4), ("if", 0), ("if", 3), ("if", -1), ("end",)]
        for count in range(4):
            for rows in itertools.product(words, repeat=count):
                self.assert_agreed(draw, list(rows), ["truth"])

    def test_drawn_rows(self):
        draw = random.Random(51)
        for turn in range(2500):
            count = draw.randint(1, 14)
            given = draw.choices(KINDS, k=draw.randint(0, 5))
            self.assert_agreed(draw, [drawn_row(draw, count) for spot in range(count)], given)

    def test_drawn_rows_that_are_mostly_fine(self):
        draw = random.Random(52)
        told = {"fine": 0, "fault": 0}
        for turn in range(800):
            told[self.assert_agreed(draw, gentle_rows(draw, draw.randint(1, 30)), ["number", "text"])] += 1
        # Both answers must come up often for the test to mean something.
        self.assertGreater(min(told.values()), 80, told)

    def test_a_run_that_falls_is_the_road_of_a_fault(self):
        draw = random.Random(53)
        falls = 0
        for turn in range(3000):
            count = draw.randint(1, 10)
            given = draw.choices(KINDS, k=draw.randint(0, 6))
            rows = [drawn_row(draw, count) for spot in range(count)]
            pile, coming = drawn_pile(draw, given), drawn_coming(draw)
            what = run(rows, pile, coming, 20)
            if what[0] == "fell":
                road = [spot for spot, left in states(rows, pile, coming, 20)]
                self.assertEqual(road[-1], what[1])
                self.assertIs(fault_stands(rows, given, (what[2], road)), True, (rows, pile, coming))
                falls += 1
        self.assertGreater(falls, 300)


if __name__ == "__main__":
    unittest.main()
