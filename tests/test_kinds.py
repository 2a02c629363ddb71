"""Points 4 and 5: what each row does with the kinds on the pile."""

import itertools
import unittest

from reference import HUGE, KINDS, WORDS, behind, lack
from rowguard.kinds import kinds_behind, lack_of_row

# Each word with the kinds that it takes off or exchanges, the upmost last, and those it leaves in their place.
ROWS = [
    (("push", 5), [], ["number"]),
    (("take", "number"), [], ["number"]),
    (("take", "truth"), [], ["truth"]),
    (("take", "text"), [], ["text"]),
    (("add",), ["number", "number"], ["number"]),
    (("less",), ["number", "number"], ["truth"]),
    (("join",), ["text", "text"], ["text"]),
    (("not",), ["truth"], ["truth"]),
    (("go", 0), [], []),
    (("if", 0), ["truth"], []),
    (("end",), [], []),
] + [
    (("same",), [kind, kind], ["truth"]) for kind in KINDS
] + [
    (("drop",), [kind], []) for kind in KINDS
] + [
    (("tell",), [kind], []) for kind in KINDS
] + [
    (("copy", 0), [kind], [kind, kind]) for kind in KINDS
] + [
    (("swap",), [one, two], [two, one]) for one in KINDS for two in KINDS
] + [
    (("copy", 1), [one, two], [one, two, one]) for one in KINDS for two in KINDS
]

# What lies below may be anything, and stays as it is.
BELOW = [[], ["number"], ["truth"], ["text"], ["text", "number", "truth"], ["number"] * 100]

FIXED = ("add", "less", "join", "not", "if")


class Lack(unittest.TestCase):
    def test_as_many_as_asked(self):
        for row, asked, left in ROWS:
            for below in BELOW:
                self.assertIsNone(lack_of_row(row, below + asked), (row, below))

    def test_one_too_few_and_none(self):
        for row, asked, left in ROWS:
            for count in range(len(asked)):
                for kinds in itertools.product(KINDS, repeat=count):
                    self.assertEqual(lack_of_row(row, list(kinds)), "few", (row, kinds))

    def test_a_wrong_kind_at_each_place(self):
        for row, asked, left in ROWS:
            if row[0] not in FIXED:
                continue
            for place, kind in itertools.product(range(len(asked)), KINDS):
                if kind == asked[place]:
                    continue
                kinds = asked[:place] + [kind] + asked[place + 1:]
                for below in BELOW:
                    self.assertEqual(lack_of_row(row, below + kinds), "kind", (row, kinds))

    def test_all_kinds_wrong(self):
        self.assertEqual(lack_of_row(("add",), ["text", "truth"]), "kind")
        self.assertEqual(lack_of_row(("less",), ["truth", "truth"]), "kind")
        self.assertEqual(lack_of_row(("join",), ["number", "number"]), "kind")

    def test_same_with_two_kinds(self):
        for one, two in itertools.permutations(KINDS, 2):
            for below in BELOW:
                self.assertEqual(lack_of_row(("same",), below + [one, two]), "kind")

    def test_few_ahead_of_kind(self):
        for word in ("add", "less", "same"):
            self.assertEqual(lack_of_row((word,), ["text"]), "few")
        self.assertEqual(lack_of_row(("join",), ["number"]), "few")

    def test_depths_of_a_copy(self):
        for count in (0, 1, 2, 3, 100, 150):
            kinds = (KINDS * 50)[:count]
            for depth in range(count):
                self.assertIsNone(lack_of_row(("copy", depth), kinds))
            for depth in (-1, -2, -count, -count - 1, count, count + 1, HUGE, -HUGE, HUGE // 7, -(10 ** 31)):
                if depth < 0 or depth >= count:
                    self.assertEqual(lack_of_row(("copy", depth), kinds), "few", (depth, count))

    def test_a_spot_that_is_not_there_is_not_told_here(self):
        for spot in (-1, 0, 1, 111, HUGE, -HUGE):
            self.assertIsNone(lack_of_row(("go", spot), []))
            self.assertIsNone(lack_of_row(("go", spot), ["text"]))
            self.assertIsNone(lack_of_row(("if", spot), ["truth"]))
            self.assertEqual(lack_of_row(("if", spot), []), "few")
            self.assertEqual(lack_of_row(("if", spot), ["number"]), "kind")

    def test_pushed_things_lack_nothing(self):
        for thing in (0, 1, -1, HUGE, -HUGE, True, False, "", "a", "~ " * 50):
            self.assertIsNone(lack_of_row(("push", thing), []))
            self.assertIsNone(lack_of_row(("push", thing), ["text"]))
        for word in WORDS:
            for below in BELOW:
                self.assertIsNone(lack_of_row(("push", word), below))
                self.assertEqual(kinds_behind(("push", word), below), below + ["text"])


class Behind(unittest.TestCase):
    def test_each_word(self):
        for row, asked, left in ROWS:
            for below in BELOW:
                self.assertEqual(kinds_behind(row, below + asked), below + left, (row, below))

    def test_a_push_of_each_kind(self):
        for below in BELOW:
            for thing in (0, 1, 2, -1, HUGE, -HUGE):
                self.assertEqual(kinds_behind(("push", thing), below), below + ["number"])
            for thing in (True, False):
                self.assertEqual(kinds_behind(("push", thing), below), below + ["truth"])
            for thing in ("", "0", "True", "number", "truth", "x" * 100):
                self.assertEqual(kinds_behind(("push", thing), below), below + ["text"])

    def test_a_copy_counts_from_above(self):
        kinds = ["text", "truth", "number"]
        for depth, kind in enumerate(["number", "truth", "text"]):
            self.assertEqual(kinds_behind(("copy", depth), kinds), kinds + [kind])
        deep = ["truth"] + ["number"] * 149
        self.assertEqual(kinds_behind(("copy", 149), deep), deep + ["truth"])

    def test_another_list_than_was_handed_in(self):
        for row, asked, left in ROWS:
            for below in BELOW:
                kinds = below + asked
                told = kinds_behind(row, kinds)
                self.assertIsInstance(told, list)
                self.assertIsNot(told, kinds)
                told.append("number")
                self.assertEqual(kinds, below + asked)


class EveryShortPile(unittest.TestCase):
    def test_against_rows_done_with_things(self):
        rows = [row for row, asked, left in ROWS]
        rows += [("push", True), ("push", ""), ("copy", -1), ("copy", 2), ("copy", 3), ("copy", HUGE)]
        piles = [list(kinds) for count in range(5) for kinds in itertools.product(KINDS, repeat=count)]
        for row, kinds in itertools.product(rows, piles):
            why = lack(row, kinds)
            self.assertEqual(lack_of_row(row, kinds), why, (row, kinds))
            if why is None:
                self.assertEqual(kinds_behind(row, kinds), behind(row, kinds), (row, kinds))


if __name__ == "__main__":
    unittest.main()
