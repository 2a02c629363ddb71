"""Point 1: nothing that is handed in is changed, and no answer shares a list with it."""

import copy
import unittest

from rowguard.checking import fault_stands, table_stands
from rowguard.errors import GuardError, NoKind
from rowguard.guard import guarded
from rowguard.kinds import kinds_behind, lack_of_row
from rowguard.looking import looked
from rowguard.machine import run, states

ROWS = [("push", 1), ("push", True), ("push", "a"), ("take", "text"), ("add",), ("less",), ("join",), ("not",),
        ("same",), ("copy", 0), ("copy", 1), ("copy", -1), ("drop",), ("swap",), ("tell",), ("go", 0), ("if", 0),
        ("end",)]

PILES = [[], ["number"], ["truth"], ["text", "text"], ["text", "number"], ["number", "number"], ["text", "truth"]]

LOOKS = [
    ([], []),
    ([], ["text"]),
    ([("go", 0)], ["number", "text"]),
    ([("if", 2), ("end",), ("drop",)], ["text", "truth"]),
    ([("push", 1), ("go", 0)], ["text"]),
    ([("drop",)], []),
    ([("add",)], ["text", "text"]),
    ([("go", 9)], ["text"]),
    ([("swap",), ("end",), ("add",)], ["text", "number"]),
]

# Runs that end, fall and are stopped, with kinds given that are the pile's.
RUNS = [
    ([], ["text"], ["a"]),
    ([("take", "number"), ("take", "truth"), ("take", "text"), ("tell",), ("drop",)], ["text"], ["a"]),
    ([("take", "number"), ("drop",), ("go", 0)], ["number", "truth"], [1, True]),
    ([("drop",)] * 3, ["text", "number"], ["a", 1]),
    ([("swap",), ("tell",), ("copy", 0), ("join",)], ["number", "text"], [1, "a"]),
    ([("if", 2), ("push", 5), ("not",)], ["truth", "truth"], [False, True]),
    ([("push", 1), ("go", 0)], [], []),
    ([("go", -1)], ["text"], ["a"]),
    ([("take", "none")], ["text"], ["a"]),
    ([("end",)], ["none"], ["a"]),
    ([("end",)], ["text"], ["a", "b"]),
    ([("end",), ("add",)], ["text"], [1]),
]

COMING = ([4, 5], [True], ["b", "c", "d"])


def outcome(call, args):
    """What a call tells, or the name of its refusal."""
    try:
        return call(*args)
    except GuardError as refusal:
        return refusal.__class__.__name__


class HandedIn(unittest.TestCase):
    def assert_untouched(self, call, *args):
        """The same after the call as before it, and the same is told again."""
        before = repr(args)
        told = copy.deepcopy(outcome(call, args))
        self.assertEqual(repr(args), before)
        self.assertEqual(outcome(call, args), told)
        self.assertEqual(repr(args), before)

    def test_runs(self):
        for rows, given, pile in RUNS:
            for most in (0, 1, 2, 20):
                self.assert_untouched(run, rows, pile, COMING, most)
                self.assert_untouched(states, rows, pile, COMING, most)
                self.assert_untouched(guarded, rows, given, pile, COMING, most)

    def test_tables_and_faults(self):
        for rows, given, pile in RUNS:
            for table in ([None] * len(rows), [list(given)] * len(rows), [["truth"], [], ["number"]][:len(rows)]):
                if len(table) == len(rows):
                    self.assert_untouched(table_stands, rows, given, table)
            if "none" not in given and ("take", "none") not in rows:
                told = looked(rows, given)
                self.assert_untouched(table_stands if told[0] == "fine" else fault_stands, rows, given, told[1])
            for fault in [("few", [0]), ("kind", [0, 1]), ("jump", [0, 2]), ("few", [-1, 5]), ("differ", [0], [0]),
                          ("differ", [0], [0, 1, 0]), ("differ", [0, 1, 2], [0, 2])]:
                self.assert_untouched(fault_stands, rows, given, fault)

    def test_changed_answers_of_runs_change_nothing(self):
        for rows, given, pile in RUNS[:4]:
            before = repr((rows, pile, COMING))
            for call in (run, states):
                first = call(rows, pile, COMING, 3)
                wanted = repr(first)
                for part in first:
                    if isinstance(part, tuple):
                        part[1].append("new")
                    elif isinstance(part, list):
                        part.append("new")
                self.assertEqual(repr((rows, pile, COMING)), before)
                self.assertEqual(repr(call(rows, pile, COMING, 3)), wanted)

    def test_one_row(self):
        for row in ROWS:
            for pile in PILES:
                kinds = list(pile)
                if lack_of_row(row, kinds) is None:
                    kinds_behind(row, kinds)
                self.assertEqual(kinds, pile)

    def test_rows_looked_through(self):
        for rows, given in LOOKS:
            before = copy.deepcopy((rows, given))
            looked(rows, given)
            self.assertEqual((rows, given), before)

    def test_rows_refused(self):
        for rows, given in [([("take", "no")], ["text"]), ([("take", "text")], ["text", "no"])]:
            before = copy.deepcopy((rows, given))
            with self.assertRaises(NoKind):
                looked(rows, given)
            self.assertEqual((rows, given), before)

    def test_a_changed_answer_changes_nothing(self):
        rows = [("if", 2), ("end",), ("drop",)]
        given = ["text", "truth"]
        told = looked(rows, given)
        for kinds in told[1]:
            kinds.append("number")
        told[1].clear()
        self.assertEqual(given, ["text", "truth"])
        self.assertEqual(looked(rows, given), ("fine", [["text", "truth"], ["text"], ["text"]]))


if __name__ == "__main__":
    unittest.main()
