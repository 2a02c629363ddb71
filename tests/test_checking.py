"""Points 7 to 9: which tables stand, and which faults are there."""

import itertools
import random
import unittest

from drawing import drawn_row, gentle_rows
from reference import HUGE, KINDS, fault_is_there, table_is_sound
from rowguard.checking import fault_stands, table_stands
from rowguard.looking import looked

LOW, HIGH = 10 ** 31, HUGE  # the least and the greatest number of thirty-two figures

# Rows that are fine with the kinds beside them.
FINE = [
    ([("push", 1)], []),
    ([("add",)], ["number", "number"]),
    ([("push", 1), ("push", "a"), ("swap",), ("tell",), ("drop",)], []),
    ([("take", "truth"), ("if", 4), ("push", 1), ("go", 5), ("push", 2), ("tell",)], ["text"]),
    ([("push", 1), ("add",), ("copy", 0), ("push", 9), ("less",), ("if", 0), ("tell",)], ["number"]),
    ([("if", 2), ("end",), ("copy", 0), ("same",), ("go", 5)], ["text", "truth"]),
    ([("go", 0)], ["text", "number"]),
    ([("go", 2), ("not",), ("tell",)], ["text"]),
]

# Rows with a fault, and one fault with its roads.
FAULTS = [
    ([("drop",)], [], ("few", [0])),
    ([("push", 1), ("add",)], [], ("few", [0, 1])),
    ([("go", 2), ("end",), ("copy", -1)], ["text"], ("few", [0, 2])),
    ([("copy", HIGH)], ["text"], ("few", [0])),
    ([("not",)], ["text"], ("kind", [0])),
    ([("push", "a"), ("push", 1), ("same",)], [], ("kind", [0, 1, 2])),
    ([("if", 2), ("end",), ("join",)], ["text", "number", "truth"], ("kind", [0, 2])),
    ([("go", -1)], [], ("jump", [0])),
    ([("push", False), ("if", 4), ("end",)], [], ("jump", [0, 1])),
    ([("go", 3), ("drop",), ("go", HIGH), ("go", 1)], ["text"], ("jump", [0, 3, 1, 2])),
    ([("push", 1), ("go", 0)], [], ("differ", [0], [0, 1, 0])),
    ([("push", 1), ("go", 0)], [], ("differ", [0, 1, 0, 1, 0, 1], [0, 1])),
    ([("if", 3), ("push", 1), ("go", 4), ("push", "1"), ("tell",)], ["truth"], ("differ", [0, 1, 2, 4], [0, 3, 4])),
    ([("if", 2), ("swap",), ("end",)], ["text", "number", "truth"], ("differ", [0, 2], [0, 1, 2])),
    ([("take", "truth"), ("if", 3), ("push", 1), ("end",)], [], ("differ", [0, 1, 3], [0, 1, 2, 3])),
]


class CheckCase(unittest.TestCase):
    def assert_table(self, rows, given, table, wanted):
        note = (rows, given, table)
        self.assertIs(table_stands(rows, given, table), wanted, note)
        self.assertIs(table_is_sound(rows, given, table), wanted, note)

    def assert_table_right(self, rows, given, table):
        self.assert_table(rows, given, table, table_is_sound(rows, given, table))

    def assert_fault(self, rows, given, fault, wanted):
        note = (rows, given, fault)
        self.assertIs(fault_stands(rows, given, fault), wanted, note)
        self.assertIs(fault_is_there(rows, given, fault), wanted, note)

    def assert_fault_right(self, rows, given, fault):
        self.assert_fault(rows, given, fault, fault_is_there(rows, given, fault))


def other_kinds(kinds):
    """Lists of kinds that are near the one told, and not it."""
    near = [kinds + [kind] for kind in KINDS] + [[kind] + kinds for kind in KINDS]
    near += [kinds[:place] + kinds[place + 1:] for place in range(len(kinds))]
    near += [kinds[:place] + [kind] + kinds[place + 1:] for place in range(len(kinds)) for kind in KINDS]
    near += [kinds[::-1]]
    return [one for one in near if one != kinds]


class Tables(CheckCase):
    def test_the_table_that_is_told(self):
        for rows, given in FINE:
            self.assert_table(rows, given, looked(rows, given)[1], True)

    def test_an_entry_none(self):
        for rows, given in FINE:
            table = looked(rows, given)[1]
            for spot in range(len(rows)):
                if table[spot] is not None:
                    # Each of these rows is come to from another, or is the first.
                    self.assert_table(rows, given, table[:spot] + [None] + table[spot + 1:], False)

    def test_an_entry_with_one_kind_more_fewer_or_another(self):
        for rows, given in FINE:
            table = looked(rows, given)[1]
            for spot in range(len(rows)):
                if table[spot] is not None:
                    for kinds in other_kinds(table[spot]):
                        self.assert_table(rows, given, table[:spot] + [kinds] + table[spot + 1:], False)

    def test_the_entry_of_another_row(self):
        for rows, given in FINE:
            table = looked(rows, given)[1]
            for spot, other in itertools.permutations(range(len(rows)), 2):
                self.assert_table_right(rows, given, table[:spot] + [table[other]] + table[spot + 1:])
        self.assert_table([("push", 1), ("tell",)], [], [[], []], False)
        self.assert_table([("push", 1), ("tell",)], [], [["number"], ["number"]], False)

    def test_other_kinds_given(self):
        for rows, given in FINE:
            table = looked(rows, given)[1]
            for kinds in other_kinds(given):
                self.assert_table(rows, kinds, table, False)

    def test_all_none(self):
        for rows, given in FINE:
            self.assert_table(rows, given, [None] * len(rows), False)
        self.assert_table([("go", -1)], [], [None], False)

    def test_no_rows(self):
        self.assert_table([], [], [], True)
        self.assert_table([], ["text", "number"], [], True)

    def test_rows_that_no_road_comes_to(self):
        rows = [("end",), ("push", 1), ("add",), ("go", 1)]
        for table, wanted in [
            ([[], None, None, None], True),
            ([[], ["number"], ["number", "number"], ["number"]], True),
            ([[], ["text", "number"], ["text", "number", "number"], ["text", "number"]], True),
            ([[], None, None, ["number"]], False),
            ([[], ["number"], ["number", "number"], None], False),
            ([[], ["number"], None, None], False),
            ([[], [], ["number"], []], False),
            ([[], ["text"], ["text", "number"], ["text"]], False),
            ([[], ["number"], ["number", "number"], ["text"]], False),
        ]:
            self.assert_table(rows, [], table, wanted)

    def test_a_row_that_no_road_comes_to_and_that_cannot_be_done(self):
        for row in [("add",), ("go", -1), ("go", 3), ("go", HIGH), ("if", -HIGH), ("copy", 5), ("copy", -1)]:
            self.assert_table([("end",), row], [], [[], None], True)
            self.assert_table([("end",), row], [], [[], []], False)
            self.assert_table([("end",), row], [], [[], ["text", "text"]], False)
        self.assert_table([("end",), ("add",)], [], [[], ["number", "number"]], True)

    def test_a_row_that_comes_to_a_row_of_roads_with_other_kinds(self):
        rows = [("go", 2), ("go", 2), ("tell",)]
        self.assert_table(rows, ["text"], [["text"], None, ["text"]], True)
        self.assert_table(rows, ["text"], [["text"], ["text"], ["text"]], True)
        self.assert_table(rows, ["text"], [["text"], ["number"], ["text"]], False)
        self.assert_table(rows, ["text"], [["text"], [], ["text"]], False)

    def test_a_row_with_kinds_that_cannot_be_done(self):
        for rows, given, table in [
            ([("drop",)], [], [[]]), ([("not",)], ["text"], [["text"]]), ([("go", -1)], [], [[]]),
            ([("go", 2)], [], [[]]), ([("if", 2)], ["truth"], [["truth"]]), ([("if", -1)], ["truth"], [["truth"]]),
            ([("copy", -1)], ["text"], [["text"]]), ([("go", HIGH)], [], [[]]), ([("go", -LOW)], [], [[]]),
        ]:
            self.assert_table(rows, given, table, False)

    def test_both_spots_of_an_if(self):
        rows = [("if", 2), ("end",), ("end",)]
        self.assert_table(rows, ["truth"], [["truth"], [], []], True)
        self.assert_table(rows, ["truth"], [["truth"], None, []], False)
        self.assert_table(rows, ["truth"], [["truth"], [], None], False)
        self.assert_table(rows, ["truth"], [["truth"], ["text"], []], False)
        self.assert_table(rows, ["truth"], [["truth"], [], ["text"]], False)

    def test_the_spot_behind_the_last_row_has_no_entry(self):
        self.assert_table([("if", 1)], ["truth"], [["truth"]], True)
        self.assert_table([("if", 2), ("push", 1)], ["truth"], [["truth"], []], True)
        self.assert_table([("if", 2), ("push", 1)], ["truth"], [["truth"], ["truth"]], False)
        self.assert_table([("go", 1)], ["text"], [["text"]], True)
        self.assert_table([("end",), ("push", 1)], [], [[], None], True)

    def test_nothing_need_stand_behind_an_end_or_a_go(self):
        for row in (("end",), ("go", 2)):
            for kinds in (None, ["text"], []):
                self.assert_table([row, ("push", 1)], [], [[], kinds], True)

    def test_rows_with_a_fault_have_no_table(self):
        for rows, given, fault in FAULTS:
            entries = [None, [], ["number"], ["text"], ["truth"], given]
            for table in itertools.product(entries, repeat=min(len(rows), 4)):
                self.assert_table(rows, given, list(table) + [None] * (len(rows) - len(table)), False)

    def test_a_hundred_and_ten_rows(self):
        rows = [("push", 1)] * 110
        table = [["text"] * 100 + ["number"] * spot for spot in range(110)]
        self.assert_table(rows, ["text"] * 100, table, True)
        self.assert_table(rows, ["text"] * 100, table[:109] + [table[108]], False)

    def test_all_short_tables(self):
        words = [("push", 1), ("take", "truth"), ("not",), ("drop",), ("copy", 0), ("go", 0), ("go", 3), ("if", 0),
                 ("if", 2), ("end",)]
        entries = [None, [], ["number"], ["truth"]]
        stand = 0
        for count in range(4):
            for rows, table in itertools.product(itertools.product(words, repeat=count),
                                                 itertools.product(entries, repeat=count)):
                for given in ([], ["truth"]):
                    self.assert_table_right(list(rows), given, list(table))
                    stand += table_stands(list(rows), given, list(table))
        self.assertGreater(stand, 500)


class Faults(CheckCase):
    def test_the_fault_that_is_told(self):
        for rows, given, fault in FAULTS:
            self.assert_fault(rows, given, fault, True)
            self.assert_fault(rows, given, looked(rows, given)[1], True)

    def test_another_reason_for_it(self):
        for rows, given, fault in FAULTS:
            for why in ("few", "kind", "jump"):
                if fault[0] != "differ":
                    self.assert_fault(rows, given, (why, fault[1]), why == fault[0])
                    self.assert_fault(rows, given, ("differ", fault[1], fault[1]), False)
                elif rows[fault[1][-1]][0] != "tell":
                    self.assert_fault(rows, given, (why, fault[1]), False)

    def test_few_ahead_of_kind_ahead_of_jump(self):
        for kinds, why in [([], "few"), (["text"], "kind"), (["truth"], "jump")]:
            for reason in ("few", "kind", "jump"):
                self.assert_fault([("if", -1)], kinds, (reason, [0]), reason == why)

    def test_a_row_that_can_be_done(self):
        for rows, given in FINE:
            for why in ("few", "kind", "jump"):
                for road in ([0], [0, 1], [0, 1, 2], [0, 2], [0, 0]):
                    self.assert_fault(rows, given, (why, road), False)

    def test_a_road_that_does_not_begin_with_nought(self):
        rows = [("go", 1), ("drop",)]
        self.assert_fault(rows, [], ("few", [0, 1]), True)
        for road in ([1], [1, 1], [-1], [-2], [-2, 1], [2], [HIGH], [-HIGH], [1, 0, 1], [-1, 0, 1], [2, 0, 1]):
            self.assert_fault(rows, [], ("few", road), False)

    def test_a_wrong_number_at_each_place(self):
        for rows, given, fault in FAULTS:
            for which in range(1, len(fault)):
                road = fault[which]
                for place in range(len(road)):
                    for number in (-1, -2, -len(rows), -len(rows) - 1, road[place] - len(rows), len(rows),
                                   len(rows) + 1, 111, LOW, HIGH, -LOW, -HIGH):
                        wrong = road[:place] + [number] + road[place + 1:]
                        self.assert_fault(rows, given, fault[:which] + (wrong,) + fault[which + 1:], False)

    def test_a_number_left_out_put_twice_or_another(self):
        for rows, given, fault in FAULTS:
            for which in range(1, len(fault)):
                road = fault[which]
                for place in range(len(road)):
                    wrongs = [road[:place] + [number] + road[place + 1:] for number in range(len(rows))]
                    wrongs += [road[:place] + [number] + road[place:] for number in range(-1, len(rows) + 1)]
                    wrongs += [road[:place] + road[place + 1:]] if len(road) > 1 else []
                    for wrong in wrongs:
                        self.assert_fault_right(rows, given, fault[:which] + (wrong,) + fault[which + 1:])
        rows = [("push", 1), ("push", 2), ("not",)]
        for road, wanted in [([0, 1, 2], True), ([0, 2], False), ([1, 2], False), ([0, 1, 1, 2], False),
                             ([0, 0, 1, 2], False), ([0, 1, 2, 2], False)]:
            self.assert_fault(rows, [], ("kind", road), wanted)

    def test_a_road_that_is_cut_or_too_long(self):
        for rows, given, fault in FAULTS:
            if fault[0] == "differ":
                continue
            road = fault[1]
            for count in range(1, len(road)):
                self.assert_fault(rows, given, (fault[0], road[:count]), False)
            for number in range(-1, len(rows) + 2):
                self.assert_fault(rows, given, (fault[0], road + [number]), False)
            self.assert_fault(rows, given, (fault[0], road * 40), False)

    def test_the_spot_behind_the_last_row_is_no_row(self):
        for rows in ([("push", 1)], [("end",)], [("go", 1)]):
            for why in ("few", "kind", "jump"):
                self.assert_fault(rows, [], (why, [0, 1]), False)
        self.assert_fault([("if", 2), ("push", 1)], ["truth"], ("differ", [0, 2], [0, 1, 2]), False)

    def test_no_rows(self):
        for why in ("few", "kind", "jump"):
            for road in ([0], [0, 0], [1], [-1], [HIGH]):
                self.assert_fault([], ["text"], (why, road), False)
        self.assert_fault([], [], ("differ", [0], [0]), False)

    def test_a_row_ahead_of_the_end_that_cannot_be_done(self):
        for row, given in [(("drop",), []), (("not",), ["number"]), (("if", 9), ["truth"]), (("copy", -1), ["text"])]:
            rows = [row, ("add",)]
            for why in ("few", "kind"):
                self.assert_fault(rows, given, (why, [0, 1]), False)
            self.assert_fault(rows, given, ("differ", [0, 1], [0, 1]), False)
        rows = [("if", 9), ("push", 1), ("add",)]
        self.assert_fault(rows, ["truth"], ("jump", [0]), True)
        self.assert_fault(rows, ["truth"], ("few", [0, 1, 2]), False)

    def test_a_jump_that_leads_nowhere_is_no_step(self):
        for spot in (-1, 3, HIGH, -HIGH):
            rows = [("go", spot), ("drop",)]
            self.assert_fault(rows, [], ("jump", [0]), True)
            self.assert_fault(rows, [], ("few", [0, spot]), False)
            self.assert_fault(rows, [], ("few", [0, 1]), False)

    def test_the_next_spot_behind_a_go_or_an_end(self):
        for row in (("go", 2), ("end",)):
            self.assert_fault([row, ("drop",), ("end",)], [], ("few", [0, 1]), False)

    def test_both_spots_of_an_if(self):
        rows = [("if", 2), ("drop",), ("drop",), ("drop",)]
        for road, wanted in [([0, 1], True), ([0, 2], True), ([0, 3], False), ([0], False), ([0, 0], False)]:
            self.assert_fault(rows, ["truth"], ("few", road), wanted)
        # Both may be gone along also where the truth value is known.
        known = [("push", False), ("if", 3), ("end",), ("drop",)]
        self.assert_fault(known, [], ("few", [0, 1, 3]), True)

    def test_differ_with_one_road_twice(self):
        for rows, given, fault in FAULTS:
            if fault[0] == "differ":
                for road in fault[1:]:
                    self.assert_fault(rows, given, ("differ", road, list(road)), False)

    def test_differ_either_way_round(self):
        for rows, given, fault in FAULTS:
            if fault[0] == "differ":
                self.assert_fault(rows, given, ("differ", fault[2], fault[1]), True)

    def test_differ_with_roads_to_different_rows(self):
        rows = [("push", 1), ("push", 2), ("end",)]
        for one, two in itertools.permutations([[0], [0, 1], [0, 1, 2]], 2):
            self.assert_fault(rows, [], ("differ", one, two), False)
        loop = [("push", 1), ("go", 0)]
        self.assert_fault(loop, [], ("differ", [0], [0, 1]), False)
        self.assert_fault(loop, [], ("differ", [0, 1, 0], [0, 1]), False)

    def test_differ_with_the_same_kinds(self):
        rows = [("if", 3), ("push", 1), ("go", 4), ("push", 2), ("tell",)]
        self.assert_fault(rows, ["truth"], ("differ", [0, 1, 2, 4], [0, 3, 4]), False)
        self.assert_fault([("go", 0)], ["text"], ("differ", [0], [0, 0, 0]), False)
        turns = [("swap",), ("go", 0)]
        self.assert_fault(turns, ["text", "number"], ("differ", [0], [0, 1, 0]), True)
        self.assert_fault(turns, ["text", "number"], ("differ", [0], [0, 1, 0, 1, 0]), False)

    def test_differ_at_a_row_that_cannot_be_done(self):
        rows = [("if", 2), ("push", 1), ("join",)]
        self.assert_fault(rows, ["text", "truth"], ("differ", [0, 2], [0, 1, 2]), True)
        self.assert_fault(rows, ["text", "truth"], ("few", [0, 2]), True)
        self.assert_fault(rows, ["text", "truth"], ("kind", [0, 1, 2]), True)

    def test_differ_with_one_road_that_is_none(self):
        rows = [("push", 1), ("go", 0)]
        for wrong in ([1], [1, 0], [0, 0], [0, 1, 1, 0], [-2], [2], [HIGH, 0], [0, 1, 0, 2], [0, 1, -2]):
            self.assert_fault(rows, [], ("differ", [0, 1, 0], wrong), False)
            self.assert_fault(rows, [], ("differ", wrong, [0, 1, 0]), False)
            self.assert_fault(rows, [], ("differ", wrong, wrong), False)

    def test_long_roads(self):
        rows = [("push", 1), ("go", 0)]
        long = [0, 1] * 150
        self.assert_fault(rows, [], ("differ", long, [0, 1]), True)
        self.assert_fault(rows, [], ("differ", long, long + [0, 1]), True)
        self.assert_fault(rows, [], ("few", long), False)
        drops = [("drop",), ("go", 0)]
        for count in (0, 1, 99, 100):
            self.assert_fault(drops, ["text"] * count, ("few", [0, 1] * count + [0]), True)
            self.assert_fault(drops, ["text"] * count, ("few", [0, 1] * (count + 1) + [0]), False)

    def test_all_short_roads(self):
        words = [("push", 1), ("take", "truth"), ("not",), ("drop",), ("go", 0), ("go", 4), ("if", 0), ("if", 2),
                 ("end",)]
        roads = [list(road) for count in (1, 2, 3) for road in itertools.product(range(-1, 3), repeat=count)]
        few = [road for road in roads if road[0] == 0]
        there = 0
        for rows in itertools.product(words, repeat=2):
            for why, road in itertools.product(("few", "kind", "jump"), roads):
                self.assert_fault_right(list(rows), ["truth"], (why, road))
                there += fault_stands(list(rows), ["truth"], (why, road))
            for one, two in itertools.product(few, repeat=2):
                self.assert_fault_right(list(rows), ["truth"], ("differ", one, two))
                there += fault_stands(list(rows), ["truth"], ("differ", one, two))
        self.assertGreater(there, 50)


class Drawn(CheckCase):
    def test_drawn_rows(self):
        draw = random.Random(40)
        for turn in range(1500):
            count = draw.randint(1, 10)
            rows = [drawn_row(draw, count) for spot in range(count)]
            given = draw.choices(KINDS, k=draw.randint(0, 4))
            self.assert_near_ones(draw, rows, given)

    def test_drawn_rows_that_are_mostly_fine(self):
        draw = random.Random(41)
        for turn in range(500):
            self.assert_near_ones(draw, gentle_rows(draw, draw.randint(1, 12)), ["number", "text"])

    def assert_near_ones(self, draw, rows, given):
        told = looked(rows, given)
        if told[0] == "fine":
            self.assert_table(rows, given, told[1], True)
            for turn in range(10):
                spot, other = draw.choices(range(len(rows)), k=2)
                kinds = draw.choice([None, told[1][other], *other_kinds(told[1][spot] or [])])
                self.assert_table_right(rows, given, told[1][:spot] + [kinds] + told[1][spot + 1:])
        else:
            self.assert_fault(rows, given, told[1], True)
            for turn in range(10):
                roads = [self.near_road(draw, rows, road) for road in told[1][1:]]
                self.assert_fault_right(rows, given, (told[1][0], *roads))

    def near_road(self, draw, rows, road):
        place = draw.randrange(len(road))
        number = draw.choice([-1, 0, len(rows) - 1, len(rows), draw.randrange(len(rows))])
        near = [road, road[:place] + [number] + road[place + 1:], road[:place] + [number] + road[place:],
                road[:place + 1], road + [number]]
        return draw.choice(near)


if __name__ == "__main__":
    unittest.main()
