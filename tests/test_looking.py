"""Points 7 to 10: a fault with its roads, or a table that stands; and the refusal NoKind."""

import itertools
import random
import unittest

from drawing import drawn_row, gentle_rows
from reference import HUGE, KINDS, WORDS, fault_is_there, kinds_at_end, only_table, table_is_sound
from rowguard.errors import GuardError, NoKind
from rowguard.looking import looked

NO_KINDS = ["", "Number", "numbers", "numbe", "number ", " text", "TRUTH", "truthtext", "int", "None", "any"]


class LookedCase(unittest.TestCase):
    def assert_right(self, rows, given):
        """Holds what is told against every arrival there is."""
        told = looked(rows, given)
        note = (rows, given, told)
        self.assertIsInstance(told, tuple, note)
        self.assertEqual(len(told), 2, note)
        table = only_table(rows, given)
        if table is None:
            self.assertEqual(told[0], "fault", note)
            self.assert_fault_there(rows, given, told[1])
        else:
            self.assertEqual(told, ("fine", table), note)
            self.assertTrue(table_is_sound(rows, given, told[1]), note)

    def assert_fault_there(self, rows, given, fault):
        self.assertIsInstance(fault, tuple)
        for road in fault[1:]:
            self.assertIsInstance(road, list)
            self.assertEqual(road[0], 0)
        self.assertTrue(fault_is_there(rows, given, fault), (rows, given, fault))

    def assert_fault(self, rows, given, *fault):
        """For rows with one fault and one road to it."""
        self.assertEqual(looked(rows, given), ("fault", fault))
        self.assert_fault_there(rows, given, fault)

    def assert_fine(self, rows, given, table):
        self.assertEqual(looked(rows, given), ("fine", table))
        self.assertTrue(table_is_sound(rows, given, table))


class Faults(LookedCase):
    def test_few(self):
        self.assert_fault([("drop",)], [], "few", [0])
        self.assert_fault([("push", 1), ("add",)], [], "few", [0, 1])
        self.assert_fault([("copy", -1)], ["text"], "few", [0])
        self.assert_fault([("copy", 1)], ["text"], "few", [0])
        self.assert_fault([("copy", HUGE)], ["text"], "few", [0])
        self.assert_fault([("go", 2), ("end",), ("swap",)], ["text"], "few", [0, 2])

    def test_kind(self):
        self.assert_fault([("not",)], ["text"], "kind", [0])
        self.assert_fault([("push", "a"), ("push", 1), ("same",)], [], "kind", [0, 1, 2])
        self.assert_fault([("push", True), ("push", 1), ("add",)], [], "kind", [0, 1, 2])
        self.assert_fault([("if", 2), ("end",), ("join",)], ["text", "number", "truth"], "kind", [0, 2])

    def test_few_ahead_of_kind_and_both_ahead_of_jump(self):
        self.assert_fault([("add",)], ["text"], "few", [0])
        self.assert_fault([("if", -1)], [], "few", [0])
        self.assert_fault([("if", -1)], ["number"], "kind", [0])
        self.assert_fault([("if", -1)], ["truth"], "jump", [0])

    def test_jump(self):
        for spot in (-1, -2, 3, 4, 111, HUGE, -HUGE, 10 ** 31, -(10 ** 31)):
            self.assert_fault([("push", 1), ("go", spot)], [], "jump", [0, 1])
            self.assert_fault([("push", True), ("if", spot)], [], "jump", [0, 1])

    def test_an_if_that_never_jumps_must_have_its_spot_all_the_same(self):
        for spot in (-1, 4, HUGE, -HUGE):
            self.assert_fault([("push", False), ("if", spot), ("end",)], [], "jump", [0, 1])

    def test_a_road_along_a_jump(self):
        self.assert_fault([("go", 3), ("drop",), ("go", -1), ("go", 1)], ["text"], "jump", [0, 3, 1, 2])

    def test_differ_where_two_roads_meet(self):
        rows = [("take", "truth"), ("if", 3), ("push", 1), ("end",)]
        fault = looked(rows, [])[1]
        self.assertEqual(fault[0], "differ")
        self.assertEqual(sorted(fault[1:]), [[0, 1, 2, 3], [0, 1, 3]])
        self.assert_fault_there(rows, [], fault)

    def test_differ_by_kind_alone(self):
        rows = [("if", 3), ("push", 1), ("go", 4), ("push", "1"), ("tell",)]
        fault = looked(rows, ["truth"])[1]
        self.assertEqual(fault[0], "differ")
        self.assertEqual(sorted(fault[1:]), [[0, 1, 2, 4], [0, 3, 4]])

    def test_differ_by_order_alone(self):
        rows = [("if", 2), ("swap",), ("end",)]
        self.assertEqual(looked(rows, ["text", "number", "truth"])[1][0], "differ")
        self.assertEqual(looked(rows, ["text", "text", "truth"])[0], "fine")

    def test_differ_in_a_loop(self):
        for rows, given in [([("push", 1), ("go", 0)], []), ([("drop",), ("go", 0)], ["text"] * 100),
                            ([("swap",), ("go", 0)], ["text", "number"])]:
            fault = looked(rows, given)[1]
            self.assertEqual(fault[0], "differ")
            self.assertNotEqual(kinds_at_end(rows, given, fault[1]), kinds_at_end(rows, given, fault[2]))
            self.assert_fault_there(rows, given, fault)

    def test_a_fault_behind_a_hundred_rows(self):
        for last, why in [(("add",), "kind"), (("go", 112), "jump"), (("copy", 110), "few")]:
            rows = [("push", "a")] * 109 + [last]
            self.assert_fault(rows, [], why, list(range(110)))

    def test_no_fault_behind_the_last_row(self):
        rows = [("if", 2), ("push", 1)]
        self.assert_fine(rows, ["truth"], [["truth"], []])

    def test_the_roads_are_lists_of_their_own(self):
        fault = looked([("push", 1), ("go", 0)], [])[1]
        self.assertIsNot(fault[1], fault[2])


class Tables(LookedCase):
    def test_no_rows(self):
        self.assert_fine([], [], [])
        self.assert_fine([], ["text", "number"], [])

    def test_one_row(self):
        self.assert_fine([("add",)], ["number", "number"], [["number", "number"]])

    def test_straight_rows(self):
        rows = [("take", "number"), ("push", 2), ("less",), ("not",), ("tell",), ("push", "a"), ("push", "b"),
                ("join",), ("copy", 0), ("same",)]
        text = ["text"]
        self.assert_fine(rows, [], [
            [], ["number"], ["number"] * 2, ["truth"], ["truth"], [], text, text * 2, text, text * 2])

    def test_rows_that_no_road_comes_to(self):
        self.assert_fine([("end",), ("add",)], [], [[], None])
        self.assert_fine([("go", 2), ("not",), ("tell",)], ["text"], [["text"], None, ["text"]])
        self.assert_fine([("go", 1), ("go", 3), ("go", -5), ("end",)], [], [[], [], None, []])
        self.assert_fine([("go", 3), ("go", 2), ("go", 1)], [], [[], None, None])

    def test_a_row_that_follows_an_end_or_a_go_and_is_jumped_to(self):
        self.assert_fine([("if", 2), ("end",), ("end",)], ["truth"], [["truth"], [], []])
        self.assert_fine([("if", 2), ("go", 3), ("push", 1)], ["truth"], [["truth"], [], []])

    def test_both_spots_of_an_if(self):
        rows = [("if", 3), ("push", 1), ("go", 4), ("push", 2), ("tell",)]
        self.assert_fine(rows, ["truth"], [["truth"], [], ["number"], [], ["number"]])

    def test_an_if_to_the_next_spot_and_to_the_one_behind_the_last(self):
        self.assert_fine([("if", 1), ("end",)], ["truth"], [["truth"], []])
        self.assert_fine([("if", 1)], ["truth"], [["truth"]])
        self.assert_fine([("go", 1)], ["truth"], [["truth"]])
        self.assert_fine([("if", 2), ("push", 5)], ["truth"], [["truth"], []])

    def test_loops_with_the_same_kinds(self):
        self.assert_fine([("go", 0)], ["text"], [["text"]])
        rows = [("push", 1), ("add",), ("copy", 0), ("push", 9), ("less",), ("if", 0), ("tell",)]
        one = ["number"]
        self.assert_fine(rows, one, [one, one * 2, one, one * 2, one * 3, one + ["truth"], one])

    def test_a_hundred_and_ten_rows_and_a_hundred_given(self):
        given = (KINDS * 34)[:100]
        rows = [("push", 1)] * 110
        self.assert_fine(rows, given, [given + ["number"] * spot for spot in range(110)])
        self.assert_fine([("go", 109)] + [("add",)] * 108 + [("go", 110)], [], [[]] + [None] * 108 + [[]])

    def test_many_ifs(self):
        rows = [("take", "truth"), ("if", 2)] + [("take", "truth"), ("if", 0)] * 54
        self.assertEqual(looked(rows, [])[0], "fine")
        self.assert_right(rows, [])

    def test_somewhat_beyond_the_bounds_nothing_is_refused(self):
        given = ["truth"] * 130
        rows = [("drop",)] * 130
        self.assert_fine(rows, given, [given[spot:] for spot in range(130)])
        self.assert_fine([("push", 10 ** 40), ("push", "%" * 120)], [], [[], ["number"]])
        self.assert_fault([("go", 10 ** 40)], [], "jump", [0])

    def test_each_row_has_a_list_of_its_own(self):
        given = ["text", "truth"]
        table = looked([("if", 2), ("go", 2), ("end",)], given)[1]
        lists = [given] + table
        for one, two in itertools.combinations(lists, 2):
            self.assertIsNot(one, two)


class JustOneIsTold(LookedCase):
    def test_all_short_rows(self):
        words = [("push", 1), ("push", "a"), ("take", "truth"), ("add",), ("not",), ("same",), ("copy", 1), ("drop",),
                 ("swap",), ("go", 0), ("go", 2), ("go", 4), ("if", 0), ("if", 2), ("if", 3), ("if", -1), ("end",)]
        piles = [[], ["truth"], ["number", "truth"], ["truth", "truth"]]
        for count in range(4):
            for rows in itertools.product(words, repeat=count):
                for given in piles:
                    self.assert_right(list(rows), given)

    def test_drawn_rows(self):
        # A fixed seed: the same rows on each run.
        draw = random.Random(20)
        for turn in range(4000):
            count = draw.randint(1, 14)
            given = draw.choices(KINDS, k=draw.randint(0, 5))
            self.assert_right([drawn_row(draw, count) for spot in range(count)], given)

    def test_drawn_rows_that_are_mostly_fine(self):
        draw = random.Random(21)
        told = [0, 0]
        for turn in range(1500):
            rows = gentle_rows(draw, draw.randint(1, 30))
            self.assert_right(rows, ["number", "text"])
            told[looked(rows, ["number", "text"])[0] == "fine"] += 1
        # Both answers must come up often for the test to mean something.
        self.assertGreater(min(told), 100, told)

    def test_the_same_is_told_each_time(self):
        rows = [("if", 3), ("push", 1), ("go", 4), ("push", "1"), ("tell",)]
        self.assertEqual(looked(rows, ["truth"]), looked(rows, ["truth"]))


class Refusals(LookedCase):
    def test_a_take_of_no_kind(self):
        for kind in NO_KINDS:
            with self.assertRaises(NoKind):
                looked([("take", kind)], [])

    def test_a_take_of_no_kind_that_no_road_comes_to(self):
        for kind in NO_KINDS:
            with self.assertRaises(NoKind):
                looked([("end",), ("push", 1), ("take", kind)], [])

    def test_a_given_text_that_is_no_kind(self):
        for kind in NO_KINDS:
            for given in ([kind], [kind, "text"], ["text", "number", kind]):
                for rows in ([], [("end",)], [("push", 1)]):
                    with self.assertRaises(NoKind):
                        looked(rows, given)

    def test_ahead_of_any_fault(self):
        for row in [("drop",), ("not",), ("go", -1), ("go", HUGE)]:
            given = ["text"] if row[0] == "not" else []
            self.assertEqual(looked([row], given)[0], "fault")
            with self.assertRaises(NoKind):
                looked([row, ("take", "none")], given)
            with self.assertRaises(NoKind):
                looked([row], ["none"] + given)

    def test_each_kind_is_taken(self):
        for kind in KINDS:
            self.assert_fine([("take", kind), ("tell",)], [kind], [[kind], [kind, kind]])

    def test_a_pushed_text_is_never_refused(self):
        for text in NO_KINDS + WORDS:
            self.assert_fine([("push", text), ("tell",)], [], [[], ["text"]])

    def test_it_is_a_guard_error_and_a_value_error(self):
        for refusal in (GuardError, ValueError):
            with self.assertRaises(refusal):
                looked([("take", "none")], [])


if __name__ == "__main__":
    unittest.main()
