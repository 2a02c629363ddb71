"""Point 1: nothing that is handed in is changed, and no answer shares a list with it."""

import copy
import unittest

from rowguard.errors import NoKind
from rowguard.kinds import kinds_behind, lack_of_row
from rowguard.looking import looked

ROWS = [("push", 1), ("push", True), ("push", "a"), ("take", "text"), ("add",), ("less",), ("join",), ("not",),
        ("same",), ("copy", 0), ("copy", 1), ("copy", -1), ("drop",), ("swap",), ("tell",), ("go", 0), ("if", 0),
        ("end",)]

PILES = [[], ["number"], ["truth"], ["text", "text"], ["text", "number"], ["number", "number"], ["text", "truth"]]

LOOKS = [
    ([], []),
    ([], ["text"]),
    ([("go", 0)], ["number", "text"]),
    ([("if", 2), ("end",), ("drop",)], ["text", "truth"]),
    ([("push", 1), ("go", 0)], ["text"]),
    ([("drop",)], []),
    ([("add",)], ["text", "text"]),
    ([("go", 9)], ["text"]),
    ([("swap",), ("end",), ("add",)], ["text", "number"]),
]


class HandedIn(unittest.TestCase):
    def test_one_row(self):
        for row in ROWS:
            for pile in PILES:
                kinds = list(pile)
                if lack_of_row(row, kinds) is None:
                    kinds_behind(row, kinds)
                self.assertEqual(kinds, pile)

    def test_rows_looked_through(self):
        for rows, given in LOOKS:
            before = copy.deepcopy((rows, given))
            looked(rows, given)
            self.assertEqual((rows, given), before)

    def test_rows_refused(self):
        for rows, given in [([("take", "no")], ["text"]), ([("take", "text")], ["text", "no"])]:
            before = copy.deepcopy((rows, given))
            with self.assertRaises(NoKind):
                looked(rows, given)
            self.assertEqual((rows, given), before)

    def test_a_changed_answer_changes_nothing(self):
        rows = [("if", 2), ("end",), ("drop",)]
        given = ["text", "truth"]
        told = looked(rows, given)
        for kinds in told[1]:
            kinds.append("number")
        told[1].clear()
        self.assertEqual(given, ["text", "truth"])
        self.assertEqual(looked(rows, given), ("fine", [["text", "truth"], ["text"], ["text"]]))


if __name__ == "__main__":
    unittest.main()
