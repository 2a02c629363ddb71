"""Points 4 to 6: what each row does with the pile; where a run falls, ends and is stopped."""

import itertools
import random
import unittest

from drawing import drawn_coming, drawn_pile, drawn_row, gentle_rows
from reference import HUGE, KINDS, SAMPLES, WORDS, go_through
from rowguard.machine import run, states

NONE_COMES = ([], [], [])
LOW, HIGH = 10 ** 31, HUGE  # the least and the greatest number of thirty-two figures


def settled(pairs):
    return [(spot, tuple(pile)) for spot, pile in pairs]


class RunCase(unittest.TestCase):
    def assert_exact(self, told, wanted, note=None):
        """Equal, and of the same kinds within: 1 is not True here."""
        self.assertEqual(told, wanted, note)
        self.assertEqual(repr(told), repr(wanted), note)

    def assert_right(self, rows, pile, coming, most):
        note = (rows, pile, coming, most)
        what, pairs = go_through(rows, pile, coming, most)
        self.assert_exact(run(rows, pile, coming, most), what, note)
        self.assert_exact(settled(states(rows, pile, coming, most)), pairs, note)

    def assert_ended(self, rows, pile, told, left, coming=NONE_COMES):
        self.assert_exact(run(rows, pile, coming, 200), ("ended", told, left), (rows, pile))
        self.assert_right(rows, pile, coming, 200)

    def assert_left(self, row, pile, left):
        """What one row leaves, whatever lies below, as the only row and as one of several."""
        for below in ([], [4], ["a", True], [0] * 100):
            self.assert_ended([row], below + pile, [], below + left)
            self.assert_ended([("push", "b"), ("drop",), row], below + pile, [], below + left)
            self.assert_exact(states([row], below + pile, NONE_COMES, 1), [(0, below + pile), (1, below + left)])

    def assert_fell(self, rows, pile, spot, why):
        self.assert_exact(run(rows, pile, NONE_COMES, 200), ("fell", spot, why), (rows, pile))
        self.assert_right(rows, pile, NONE_COMES, 200)


class Words(RunCase):
    def test_push(self):
        for thing in (0, 1, -1, HIGH, -HIGH, True, False, "", "a", "number", " ~" * 50):
            self.assert_left(("push", thing), [], [thing])

    def test_pushed_texts_that_are_words_and_kinds(self):
        for text in WORDS + KINDS:
            self.assert_left(("push", text), [], [text])
            self.assert_ended([("push", text), ("tell",)], ["a", "b"], [text], ["a", "b"])

    def test_add(self):
        for lower, upmost, both in [(2, 3, 5), (0, 0, 0), (5, -7, -2), (-7, 5, -2), (-1, 1, 0)]:
            self.assert_left(("add",), [lower, upmost], [both])
        for lower, upmost in itertools.product((HIGH, -HIGH, LOW, -LOW, 1, -1, 0), repeat=2):
            self.assert_left(("add",), [lower, upmost], [lower + upmost])
        self.assert_left(("add",), [HIGH, HIGH], [199999999999999999999999999999998])
        self.assert_left(("add",), [-HIGH, -1], [-100000000000000000000000000000000])
        self.assert_left(("add",), [HIGH, -HIGH], [0])

    def test_less(self):
        for lower, upmost, told in [(1, 2, True), (2, 1, False), (2, 2, False), (0, 0, False), (-1, 0, True),
                                    (0, -1, False), (-2, -1, True), (-HIGH, HIGH, True), (HIGH, -HIGH, False),
                                    (HIGH, HIGH, False), (HIGH - 1, HIGH, True), (-HIGH, -HIGH + 1, True),
                                    (9, 10, True), (10, 9, False)]:
            self.assert_left(("less",), [lower, upmost], [told])

    def test_join(self):
        for lower, upmost, both in [("a", "b", "ab"), ("b", "a", "ba"), ("", "a", "a"), ("a", "", "a"), ("", "", ""),
                                    ("1", "2", "12"), ("x" * 100, "~ ", "x" * 100 + "~ ")]:
            self.assert_left(("join",), [lower, upmost], [both])

    def test_not(self):
        self.assert_left(("not",), [True], [False])
        self.assert_left(("not",), [False], [True])

    def test_same(self):
        alike = [(0, 0), (-3, -3), (HIGH, HIGH), (-LOW, -LOW), (True, True), (False, False), ("", ""), ("a", "a"),
                 ("x" * 100, "x" * 100)]
        for lower, upmost in alike:
            self.assert_left(("same",), [lower, upmost], [True])
        unlike = [(0, 1), (1, -1), (HIGH, HIGH - 1), (HIGH, -HIGH), (True, False), (False, True), ("", " "),
                  ("a", "A"), ("a", "aa"), ("ab", "ba"), ("x" * 100, "x" * 99)]
        for lower, upmost in unlike:
            self.assert_left(("same",), [lower, upmost], [False])

    def test_same_of_things_that_were_reckoned(self):
        self.assert_ended([("add",), ("same",)], [HIGH, HIGH - 1, 1], [], [True])
        self.assert_ended([("join",), ("same",)], ["ab", "a", "b"], [], [True])

    def test_copy_at_each_depth(self):
        self.assert_exact(run([("copy", 0)], [7], NONE_COMES, 1), ("ended", [], [7, 7]))
        for count in (1, 2, 3, 100, 110):
            pile = ([5, "a", True, -2, "b", False] * 20)[:count]
            for depth in range(count):
                wanted = pile + [list(reversed(pile))[depth]]
                self.assert_ended([("copy", depth)], pile, [], wanted)
                if count < 4:
                    self.assert_left(("copy", depth), pile, wanted)

    def test_drop_and_swap(self):
        for one, two in itertools.product((4, 0, 1, True, False, "a", ""), repeat=2):
            self.assert_left(("drop",), [one, two], [one])
            self.assert_left(("swap",), [one, two], [two, one])

    def test_tell_in_the_order_told(self):
        for thing in (0, 1, HIGH, -HIGH, True, False, "", "a"):
            self.assert_ended([("tell",)], [thing], [thing], [])
            self.assert_ended([("tell",)], ["b", thing], [thing], ["b"])
        self.assert_ended([("tell",)] * 4, [1, True, "a", 0], [0, "a", True, 1], [])
        rows = [("push", 1), ("tell",), ("push", "a"), ("push", True), ("tell",), ("drop",), ("push", 1), ("tell",)]
        self.assert_ended(rows, ["b"], [1, True, 1], ["b"])

    def test_go(self):
        self.assert_ended([("go", 2), ("push", 1), ("push", 2)], [], [], [2])
        self.assert_ended([("go", 1), ("push", 1)], [], [], [1])
        self.assert_ended([("go", 1)], ["a"], [], ["a"])
        self.assert_ended([("go", 3), ("push", 1), ("end",), ("push", 2), ("go", 1)], [], [], [2, 1])

    def test_if(self):
        rows = [("if", 3), ("push", "no"), ("end",), ("push", "yes")]
        self.assert_ended(rows, [True], [], ["yes"])
        self.assert_ended(rows, [False], [], ["no"])
        back = [("go", 3), ("push", "back"), ("end",), ("if", 1), ("push", "on")]
        self.assert_ended(back, [4, True], [], [4, "back"])
        self.assert_ended(back, [4, False], [], [4, "on"])

    def test_an_if_to_the_next_spot_and_behind_the_last_row(self):
        for truth in (True, False):
            self.assert_ended([("if", 1), ("push", 1)], [truth], [], [1])
            self.assert_ended([("if", 1)], ["a", truth], [], ["a"])
        self.assert_ended([("if", 2), ("push", 1)], [True], [], [])
        self.assert_ended([("if", 2), ("push", 1)], [False], [], [1])

    def test_an_if_takes_one_truth_value_a_time(self):
        rows = [("if", 0), ("push", "on")]
        self.assert_ended(rows, [True, False, True, True], [], [True, "on"])

    def test_a_loop_that_counts(self):
        rows = [("copy", 0), ("tell",), ("push", 1), ("add",), ("copy", 0), ("push", 5), ("less",), ("if", 0)]
        self.assert_ended(rows, [0], [0, 1, 2, 3, 4], [5])

    def test_end_in_the_middle(self):
        self.assert_ended([("push", 1), ("end",), ("push", 2)], [], [], [1])
        self.assert_ended([("end",), ("add",), ("go", -1)], ["a"], [], ["a"])
        self.assert_exact(states([("end",), ("add",), ("go", -1)], ["a"], NONE_COMES, 5), [(0, ["a"]), (3, ["a"])])


class Take(RunCase):
    def test_things_that_come_in(self):
        coming = ([4, 1, 0], [True, False], ["b", "", "a"])
        for kind, things in zip(KINDS, coming):
            for count in range(len(things) + 1):
                self.assert_ended([("take", kind)] * count, [9], [], [9] + things[:count], coming)

    def test_none_left(self):
        for kind, blank in [("number", 0), ("truth", False), ("text", "")]:
            self.assert_ended([("take", kind)], [], [], [blank])
            self.assert_ended([("take", kind)] * 3, [], [], [blank] * 3)
        coming = ([4], [True], ["a"])
        for kind, things, blank in [("number", [4], 0), ("truth", [True], False), ("text", ["a"], "")]:
            self.assert_ended([("take", kind)] * 3, [], [], things + [blank] * 2, coming)

    def test_none_of_that_kind_with_others_left(self):
        self.assert_ended([("take", "number")], [], [], [0], ([], [True], ["a"]))
        self.assert_ended([("take", "truth")], [], [], [False], ([1], [], ["a"]))
        self.assert_ended([("take", "text")], [], [], [""], ([1], [True], []))

    def test_the_three_kinds_in_turn(self):
        coming = ([1, 2], [True, True], ["a", "b"])
        for order in itertools.permutations(KINDS):
            rows = [("take", kind) for kind in order] * 3
            first = {"number": 1, "truth": True, "text": "a"}
            second = {"number": 2, "truth": True, "text": "b"}
            third = {"number": 0, "truth": False, "text": ""}
            wanted = [which[kind] for which in (first, second, third) for kind in order]
            self.assert_ended(rows, [], [], wanted, coming)

    def test_a_pushed_thing_that_is_called_like_a_kind_takes_nothing(self):
        self.assert_ended([("push", "text"), ("take", "text")], [], [], ["text", "a"], ([], [], ["a", "b"]))

    def test_what_one_run_took_is_there_for_the_next(self):
        coming = ([4, 5], [], [])
        for turn in range(2):
            self.assert_exact(run([("take", "number")], [], coming, 5), ("ended", [], [4]))

    def test_a_loop_until_none_is_left(self):
        rows = [("take", "text"), ("copy", 0), ("push", ""), ("same",), ("if", 7), ("tell",), ("go", 0), ("drop",)]
        self.assert_ended(rows, [], ["one", "two", "three"], [], ([], [], ["one", "two", "three"]))


# Each word that takes off or counts, with the kinds it asks for.
ASKED = [("add", ["number", "number"]), ("less", ["number", "number"]), ("join", ["text", "text"]), ("not", ["truth"]),
         ("if", ["truth"]), ("same", [None, None]), ("drop", [None]), ("swap", [None, None]), ("tell", [None])]


class Falls(RunCase):
    def assert_row_falls(self, row, pile, why):
        """The row falls as the first one, further on and when jumped to, with its own spot told."""
        self.assert_fell([row], pile, 0, why)
        self.assert_fell([row, ("end",)], pile, 0, why)
        self.assert_fell([("go", 1), ("push", 1), ("drop",), row, ("end",)], pile, 3, why)
        self.assert_fell([("go", 5), ("end",), row, ("end",), ("end",), ("go", 2)], pile, 2, why)

    def test_few(self):
        for word, asked in ASKED:
            row = (word, 0) if word == "if" else (word,)
            for count in range(len(asked)):
                for kinds in itertools.product(KINDS, repeat=count):
                    self.assert_row_falls(row, [SAMPLES[kind] for kind in kinds], "few")

    def test_kind(self):
        for word, asked in ASKED:
            if asked[0] is None:
                continue
            row = (word, 0) if word == "if" else (word,)
            for kinds in itertools.product(KINDS, repeat=len(asked)):
                if list(kinds) != asked:
                    for below in ([], ["a"], [1], [True]):
                        self.assert_row_falls(row, below + [SAMPLES[kind] for kind in kinds], "kind")

    def test_kind_of_a_same(self):
        for one, two in itertools.permutations((1, True, "1"), 2):
            self.assert_row_falls(("same",), [one, two], "kind")
        for one, two in [(0, False), (False, 0), ("", 0), (False, ""), (1, True)]:
            self.assert_row_falls(("same",), [one, two], "kind")

    def test_true_and_false_are_no_numbers(self):
        for word in ("add", "less"):
            self.assert_row_falls((word,), [1, True], "kind")
            self.assert_row_falls((word,), [False, 1], "kind")
        for number in (0, 1):
            self.assert_row_falls(("not",), [number], "kind")
            self.assert_row_falls(("if", 0), [number], "kind")

    def test_few_of_a_copy(self):
        for pile in ([], [1], ["a", True], [0] * 100):
            count = len(pile)
            for depth in (-1, -2, -count - 1, count, count + 1, HIGH, -HIGH, LOW, -LOW):
                self.assert_row_falls(("copy", depth), pile, "few")
            if count:
                self.assert_row_falls(("copy", -count), pile, "few")

    def test_jump(self):
        for spot in (-1, -2, -7, 7, 8, 111, HIGH, -HIGH, LOW, -LOW):
            for pile in ([], ["a"], [1, 2]):
                self.assert_row_falls(("go", spot), pile, "jump")
            for truth in (True, False):
                self.assert_row_falls(("if", spot), [truth], "jump")
                self.assert_row_falls(("if", spot), ["a", truth], "jump")

    def test_the_spot_behind_the_last_row_is_there_and_the_next_is_not(self):
        for count in (1, 2, 3, 110):
            rest = [("end",)] * (count - 1)
            self.assert_ended([("go", count)] + rest, [1], [], [1])
            self.assert_fell([("go", count + 1)] + rest, [1], 0, "jump")
            for truth in (True, False):
                self.assert_ended([("if", count)] + rest, [truth], [], [])
                self.assert_fell([("if", count + 1)] + rest, [truth], 0, "jump")

    def test_few_ahead_of_kind_and_kind_ahead_of_jump(self):
        for word in ("add", "less"):
            self.assert_row_falls((word,), ["a"], "few")
            self.assert_row_falls((word,), [True], "few")
        self.assert_row_falls(("join",), [1], "few")
        for spot in (-1, 9, HIGH, -HIGH):
            self.assert_row_falls(("if", spot), [], "few")
            self.assert_row_falls(("if", spot), [1], "kind")
            self.assert_row_falls(("if", spot), ["a"], "kind")

    def test_behind_rows_that_were_done(self):
        self.assert_fell([("push", 1), ("tell",), ("push", "a"), ("not",)], [], 3, "kind")
        self.assert_fell([("drop",), ("go", 0)], [1, True, "a"], 0, "few")
        self.assert_fell([("push", 1)] * 109 + [("join",)], [], 109, "kind")

    def test_a_row_that_cannot_be_done_and_is_not_come_to(self):
        self.assert_ended([("end",), ("go", -1)], [], [], [])
        self.assert_ended([("if", 2), ("add",), ("end",)], [True], [], [])
        self.assert_fell([("if", 2), ("add",), ("end",)], [False], 1, "few")


class EndedAndStopped(RunCase):
    def test_no_rows(self):
        for most in (0, 1, 200):
            for pile in ([], [1, True, "a"]):
                self.assert_exact(run([], pile, NONE_COMES, most), ("ended", [], pile))
                self.assert_exact(states([], pile, NONE_COMES, most), [(0, pile)])

    def test_no_rows_to_be_done(self):
        for row in [("push", 1), ("add",), ("go", -1), ("end",), ("drop",), ("not",)]:
            self.assert_exact(run([row], ["a"], NONE_COMES, 0), ("stopped", [], ["a"]))
            self.assert_exact(states([row], ["a"], NONE_COMES, 0), [(0, ["a"])])

    def test_as_many_as_are_done_one_more_and_one_fewer(self):
        rows = [("push", 1), ("tell",), ("push", 2), ("tell",), ("push", 3)]
        self.assert_exact(run(rows, [], NONE_COMES, 6), ("ended", [1, 2], [3]))
        self.assert_exact(run(rows, [], NONE_COMES, 5), ("ended", [1, 2], [3]))
        self.assert_exact(run(rows, [], NONE_COMES, 4), ("stopped", [1, 2], []))
        self.assert_exact(run(rows, [], NONE_COMES, 3), ("stopped", [1], [2]))

    def test_an_end_a_go_and_an_if_count_as_rows_done(self):
        for row, pile in [(("end",), []), (("go", 3), []), (("if", 3), [True])]:
            rows = [("push", 1), ("drop",), row]
            self.assert_exact(run(rows, pile, NONE_COMES, 4), ("ended", [], []))
            self.assert_exact(run(rows, pile, NONE_COMES, 3), ("ended", [], []))
            self.assert_exact(run(rows, pile, NONE_COMES, 2), ("stopped", [], pile))

    def test_a_loop_without_an_end(self):
        for most in (0, 1, 2, 199, 200, 230):
            self.assert_exact(run([("go", 0)], ["a"], NONE_COMES, most), ("stopped", [], ["a"]))
            self.assertEqual(states([("go", 0)], ["a"], NONE_COMES, most), [(0, ["a"])] * (most + 1))
        grows = [("push", 1), ("go", 0)]
        self.assert_exact(run(grows, ["a"], NONE_COMES, 200), ("stopped", [], ["a"] + [1] * 100))
        tells = [("push", 1), ("tell",), ("go", 0)]
        self.assert_exact(run(tells, ["a"], NONE_COMES, 200), ("stopped", [1] * 67, ["a"]))

    def test_stopped_where_the_next_row_cannot_be_done(self):
        for row, why in [(("add",), "few"), (("not",), "kind"), (("go", -1), "jump"), (("copy", HIGH), "few")]:
            rows = [("push", "a"), row]
            self.assert_exact(run(rows, [], NONE_COMES, 1), ("stopped", [], ["a"]))
            self.assert_exact(run(rows, [], NONE_COMES, 2), ("fell", 1, why))

    def test_a_great_number_of_rows_at_the_most(self):
        self.assert_exact(run([("push", 1)], [], NONE_COMES, HIGH), ("ended", [], [1]))
        self.assert_exact(run([("drop",), ("go", 0)], [1], NONE_COMES, HIGH), ("fell", 0, "few"))

    def test_a_hundred_and_ten_rows_and_a_hundred_things(self):
        pile = [1, True, "a", -5] * 25
        self.assert_ended([("push", 1)] * 110, pile, [], pile + [1] * 110)
        self.assert_ended([("tell",)] * 100, pile, pile[::-1], [])
        self.assert_ended([("copy", 99)] * 110, pile, [], (pile * 3)[:210])

    def test_somewhat_beyond_the_bounds_nothing_is_refused(self):
        pile = [10 ** 40, "%" * 150, True] * 50
        self.assert_exact(run([("drop",)] * 130, pile, NONE_COMES, 300), ("ended", [], pile[:20]))
        self.assert_exact(run([("go", 10 ** 50)], [], NONE_COMES, 300), ("fell", 0, "jump"))


class States(RunCase):
    def test_a_pair_for_each_row_done(self):
        rows = [("push", 1), ("push", True), ("if", 4), ("drop",), ("tell",)]
        self.assert_exact(states(rows, ["a"], NONE_COMES, 200), [
            (0, ["a"]), (1, ["a", 1]), (2, ["a", 1, True]), (4, ["a", 1]), (5, ["a"])])

    def test_as_many_pairs_as_rows_at_the_most_and_one(self):
        rows = [("push", 1), ("push", 2), ("push", 3)]
        pairs = [(0, []), (1, [1]), (2, [1, 2]), (3, [1, 2, 3])]
        for most in range(6):
            self.assert_exact(states(rows, [], NONE_COMES, most), pairs[:most + 1])

    def test_the_spot_behind_the_last_row_at_an_end(self):
        self.assert_exact(states([("go", 3), ("end",), ("push", 1), ("go", 1)], [], NONE_COMES, 9), [
            (0, []), (3, []), (1, []), (4, [])])

    def test_as_far_as_it_came_where_the_run_falls(self):
        self.assert_exact(states([("add",)], ["a"], NONE_COMES, 9), [(0, ["a"])])
        self.assert_exact(states([("push", 1), ("not",), ("end",)], [], NONE_COMES, 9), [(0, []), (1, [1])])
        self.assert_exact(states([("if", 9)], [False], NONE_COMES, 9), [(0, [False])])
        self.assert_exact(states([("drop",), ("go", 0)], ["a"], NONE_COMES, 9), [(0, ["a"]), (1, []), (0, [])])

    def test_kinds_of_what_is_told(self):
        pairs = states([("go", 1)], ["a"], NONE_COMES, 9)
        self.assertIsInstance(pairs, list)
        for pair in pairs:
            self.assertIsInstance(pair, tuple)
            self.assertIsInstance(pair[1], list)
        self.assertIsInstance(run([], [], NONE_COMES, 0), tuple)

    def test_each_pile_is_a_list_of_its_own(self):
        for rows in ([], [("go", 0)], [("end",)], [("go", 1), ("push", 1), ("drop",), ("swap",), ("copy", 0)]):
            pile = ["a", 2]
            piles = [pile] + [left for spot, left in states(rows, pile, NONE_COMES, 9)]
            for one, two in itertools.combinations(piles, 2):
                self.assertIsNot(one, two)

    def test_the_pile_told_by_a_run_is_a_list_of_its_own(self):
        for rows in ([], [("go", 0)], [("end",)]):
            for most in (0, 3):
                pile = ["a"]
                left = run(rows, pile, NONE_COMES, most)[2]
                self.assertIsNot(left, pile)
                left.append(1)
                self.assertEqual(pile, ["a"])


class Drawn(RunCase):
    def test_all_short_rows(self):
        words = [("push", 1), ("push", "a"), ("take", "truth"), ("add",), ("not",), ("same",), ("copy", 1), ("drop",),
                 ("swap",), ("tell",), ("go", 0), ("go", 2), ("go", 4), ("if", 0), ("if", 3), ("if", -1), ("end",)]
        piles = [[], [True], [2, False], ["a", "b"]]
        for count in range(4):
            for rows in itertools.product(words, repeat=count):
                for pile in piles:
                    self.assert_right(list(rows), pile, ([1], [True], []), 7)

    def test_drawn_rows(self):
        draw = random.Random(30)
        for turn in range(4000):
            count = draw.randint(1, 14)
            rows = [drawn_row(draw, count) for spot in range(count)]
            pile = drawn_pile(draw, draw.choices(KINDS, k=draw.randint(0, 6)))
            self.assert_right(rows, pile, drawn_coming(draw), draw.randint(0, 30))

    def test_drawn_rows_that_mostly_go_on(self):
        draw = random.Random(31)
        ends = {"ended": 0, "stopped": 0, "fell": 0}
        for turn in range(1500):
            rows = gentle_rows(draw, draw.randint(1, 30))
            pile = drawn_pile(draw, ["number", "text"])
            coming = drawn_coming(draw)
            most = draw.randint(0, 30)
            self.assert_right(rows, pile, coming, most)
            ends[run(rows, pile, coming, most)[0]] += 1
        self.assertGreater(min(ends.values()), 50, ends)


if __name__ == "__main__":
    unittest.main()
