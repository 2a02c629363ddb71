"""The interface: what takes rows refuses with NoKind, ahead of all else."""

import unittest

from reference import HUGE, KINDS, WORDS
from rowguard.checking import fault_stands, table_stands
from rowguard.errors import GuardError, NoKind
from rowguard.guard import guarded
from rowguard.looking import looked
from rowguard.machine import run, states

NO_KINDS = ["", "Number", "numbers", "numbe", "number ", " text", "TRUTH", "truthtext", "int", "None", "any", "take",
            "n", "x" * 100]

NONE_COMES = ([], [], [])

# What takes rows, called with rows and given kinds; the last two are handed no given ones.
WITH_GIVEN = {
    "looked": lambda rows, given, pile: looked(rows, given),
    "table_stands": lambda rows, given, pile: table_stands(rows, given, [None] * len(rows)),
    "table_stands so": lambda rows, given, pile: table_stands(rows, given, [list(given)] * len(rows)),
    "fault_stands few": lambda rows, given, pile: fault_stands(rows, given, ("few", [0])),
    "fault_stands astray": lambda rows, given, pile: fault_stands(rows, given, ("jump", [HUGE, -1])),
    "fault_stands differ": lambda rows, given, pile: fault_stands(rows, given, ("differ", [0], [1])),
    "guarded": lambda rows, given, pile: guarded(rows, given, pile, NONE_COMES, 200),
    "guarded at once": lambda rows, given, pile: guarded(rows, given, pile, NONE_COMES, 0),
}
WITH_ROWS = {
    "run": lambda rows, given, pile: run(rows, pile, NONE_COMES, 200),
    "run at once": lambda rows, given, pile: run(rows, pile, NONE_COMES, 0),
    "states": lambda rows, given, pile: states(rows, pile, NONE_COMES, 200),
    "states at once": lambda rows, given, pile: states(rows, pile, NONE_COMES, 0),
}
ALL = WITH_GIVEN | WITH_ROWS


class Refusals(unittest.TestCase):
    def assert_refused(self, calls, rows, given, pile):
        for name, call in calls.items():
            with self.subTest(name=name, rows=rows, given=given, pile=pile):
                with self.assertRaises(NoKind):
                    call(rows, given, pile)

    def test_a_take_of_no_kind(self):
        for kind in NO_KINDS:
            self.assert_refused(ALL, [("take", kind)], [], [])
            self.assert_refused(ALL, [("push", 1), ("take", kind), ("drop",)], ["text"], ["a"])

    def test_a_take_that_no_road_and_no_run_comes_to(self):
        for kind in NO_KINDS:
            self.assert_refused(ALL, [("end",), ("take", kind)], [], [])
            self.assert_refused(ALL, [("go", 2), ("take", kind), ("take", "text")], [], [])
            self.assert_refused(ALL, [("push", 1)] * 109 + [("take", kind)], [], [])

    def test_behind_takes_of_kinds(self):
        for kind in NO_KINDS:
            self.assert_refused(ALL, [("take", each) for each in KINDS] + [("take", kind)], [], [])

    def test_a_given_text_that_is_no_kind_at_any_place(self):
        for kind in NO_KINDS:
            for place in range(4):
                given = KINDS[:place] + [kind] + KINDS[place:]
                for rows in ([], [("end",)], [("push", 1)]):
                    self.assert_refused(WITH_GIVEN, rows, given, [])
        self.assert_refused(WITH_GIVEN, [], ["text"] * 99 + ["none"], ["a"] * 100)

    def test_ahead_of_a_fault_and_a_fall(self):
        for row, given, pile in [(("drop",), [], []), (("not",), ["text"], ["a"]), (("go", -1), [], []),
                                 (("go", HUGE), [], []), (("copy", -HUGE), ["text"], ["a"])]:
            self.assert_refused(ALL, [row, ("take", "none")], given, pile)
            self.assert_refused(WITH_GIVEN, [row], given + ["none"], pile)
        self.assert_refused(ALL, [("push", 1), ("go", 0), ("take", "none")], [], [])

    def test_ahead_of_a_pile_that_is_not_so(self):
        for pile in ([1], ["a", "b"], [True]):
            self.assert_refused(ALL, [("end",), ("take", "none")], ["text"], pile)
            self.assert_refused(WITH_GIVEN, [("end",)], ["text", "none"], pile)

    def test_with_both_at_once(self):
        self.assert_refused(WITH_GIVEN, [("take", "none")], ["none"], [])

    def test_kinds_are_not_refused(self):
        for name, call in ALL.items():
            for kind in KINDS:
                pile = {"number": [1], "truth": [True], "text": ["a"]}[kind]
                call([("take", kind), ("tell",)], [kind], pile)

    def test_pushed_texts_are_not_refused(self):
        for name, call in ALL.items():
            for text in NO_KINDS + WORDS:
                call([("push", text)], [], [])

    def test_it_is_a_guard_error(self):
        for name, call in ALL.items():
            with self.assertRaises(GuardError):
                call([("take", "none")], [], [])


if __name__ == "__main__":
    unittest.main()
