"""The guard: rows run only where they are fine, on a pile of just the kinds given."""

import itertools
import unittest

from reference import HUGE, KINDS, SAMPLES
from rowguard.errors import GuardError, NotFine, NotSo
from rowguard.guard import guarded
from rowguard.machine import run

NONE_COMES = ([], [], [])

# Rows that are fine, with the kinds given and a pile of these.
FINE = [
    ([], [], []),
    ([], ["text", "truth", "number"], ["a", False, 0]),
    ([("add",), ("tell",)], ["text", "number", "number"], ["a", HUGE, -5]),
    ([("take", "truth"), ("if", 4), ("push", 1), ("go", 5), ("push", 2), ("tell",)], ["text"], [""]),
    ([("if", 2), ("end",), ("tell",)], ["text", "truth"], ["a", True]),
    ([("if", 2), ("end",), ("tell",)], ["text", "truth"], ["a", False]),
    ([("end",), ("add",), ("go", -1)], [], []),
    ([("take", "text"), ("tell",), ("go", 0)], ["number"], [4]),
    ([("swap",)], ["number", "truth"], [1, True]),
]

# Rows with a fault of each reason, with the kinds given and a pile of these.
FAULTY = [
    ([("drop",)], [], []),
    ([("push", "a"), ("add",)], ["number"], [1]),
    ([("go", 2)], [], []),
    ([("push", False), ("if", -1)], [], []),
    ([("push", 1), ("go", 0)], [], []),
    ([("if", 2), ("push", 1), ("end",)], ["truth"], [True]),
    # No run falls here, and still a fault is there.
    ([("push", False), ("if", 3), ("end",), ("drop",)], [], []),
]


class Guarded(unittest.TestCase):
    def test_what_run_tells(self):
        for rows, given, pile in FINE:
            for coming in (NONE_COMES, ([5, 6], [True, False], ["b", "c"])):
                for most in (0, 1, 2, 3, 7, 200):
                    told = guarded(rows, given, pile, coming, most)
                    wanted = run(rows, pile, coming, most)
                    self.assertEqual(told, wanted)
                    self.assertEqual(repr(told), repr(wanted))
                    self.assertNotEqual(told[0], "fell")

    def test_ended_and_stopped(self):
        rows = [("take", "number"), ("add",), ("copy", 0), ("tell",)]
        coming = ([4], [], [])
        self.assertEqual(guarded(rows, ["number"], [3], coming, 4), ("ended", [7], [7]))
        self.assertEqual(guarded(rows, ["number"], [3], coming, 3), ("stopped", [], [7, 7]))

    def test_not_fine(self):
        for rows, given, pile in FAULTY:
            for most in (0, 1, 200):
                with self.assertRaises(NotFine):
                    guarded(rows, given, pile, NONE_COMES, most)

    def test_not_fine_ahead_of_not_so(self):
        for rows, given, pile in FAULTY:
            for wrong in other_piles(given):
                with self.assertRaises(NotFine):
                    guarded(rows, given, wrong, NONE_COMES, 200)

    def test_not_fine_with_some_given_and_fine_with_others(self):
        rows = [("same",)]
        pile = ["a", "a"]
        self.assertEqual(guarded(rows, ["text", "text"], pile, NONE_COMES, 9), ("ended", [], [True]))
        for given in ([], ["text"], ["text", "number"], ["truth", "number"]):
            with self.assertRaises(NotFine):
                guarded(rows, given, pile, NONE_COMES, 9)
        for given in (["number", "number"], ["text", "text", "text"], ["truth", "truth"]):
            with self.assertRaises(NotSo):
                guarded(rows, given, pile, NONE_COMES, 9)

    def test_not_so(self):
        for rows, given, pile in FINE:
            for wrong in other_piles(given):
                for most in (0, 1, 200):
                    with self.assertRaises(NotSo):
                        guarded(rows, given, wrong, NONE_COMES, most)

    def test_not_so_true_for_a_number_and_1_for_a_truth_value(self):
        for kind, wrongs in [("number", (True, False)), ("truth", (0, 1))]:
            for wrong in wrongs:
                for given, pile in [([kind], [wrong]), (["text", kind], ["a", wrong]), ([kind, "text"], [wrong, "a"])]:
                    with self.assertRaises(NotSo):
                        guarded([("push", 1)], given, pile, NONE_COMES, 9)

    def test_not_so_for_the_kinds_in_another_order(self):
        with self.assertRaises(NotSo):
            guarded([], ["text", "number"], [1, "a"], NONE_COMES, 9)

    def test_a_hundred_things(self):
        pile = [1, True, "a", 0] * 25
        given = ["number", "truth", "text", "number"] * 25
        self.assertEqual(guarded([("drop",)] * 100, given, pile, NONE_COMES, 200), ("ended", [], []))
        for wrong in (pile[:99], pile + [0], pile[:99] + [False], ["a"] + pile[1:]):
            with self.assertRaises(NotSo):
                guarded([("drop",)] * 100, given, wrong, NONE_COMES, 200)

    def test_the_refusals_are_guard_errors(self):
        for rows, pile in [([("drop",)], []), ([], [1])]:
            with self.assertRaises(GuardError):
                guarded(rows, [], pile, NONE_COMES, 1)

    def test_all_short_piles(self):
        piles = [list(kinds) for count in range(4) for kinds in itertools.product(KINDS, repeat=count)]
        for given, kinds in itertools.product(piles, repeat=2):
            pile = [SAMPLES[kind] for kind in kinds]
            if given == kinds:
                self.assertEqual(guarded([("push", 1)], given, pile, NONE_COMES, 1), ("ended", [], pile + [1]))
            else:
                with self.assertRaises(NotSo):
                    guarded([("push", 1)], given, pile, NONE_COMES, 1)


def other_piles(given):
    """Piles with one thing more, fewer or of another kind than given."""
    pile = [SAMPLES[kind] for kind in given]
    piles = [pile + [thing] for thing in SAMPLES.values()] + [pile[:-1], pile[1:]] * bool(pile)
    for place, kind in enumerate(given):
        piles += [pile[:place] + [SAMPLES[other]] + pile[place + 1:] for other in KINDS if other != kind]
    return piles


if __name__ == "__main__":
    unittest.main()
