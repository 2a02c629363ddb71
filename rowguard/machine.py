"""Rows are run on a pile, with things that come in."""

from rowguard.kinds import KINDS, count_taken, kinds_of, refuse_no_kinds
from rowguard.steps import spots_behind, why_not_done

# What a take puts on where nothing of its kind is left, in the order of KINDS.
BLANKS = (0, False, "")


def run(rows, pile, coming, most):
    """What becomes of a run: ("ended", told, pile), ("stopped", told, pile) or ("fell", spot, why)."""
    pairs = states(rows, pile, coming, most)
    spot = pairs[-1][0]
    left = pairs[-1][1]
    if spot == len(rows):
        return ("ended", told_on(rows, pairs), left)
    if len(pairs) > most:
        return ("stopped", told_on(rows, pairs), left)
    return ("fell", spot, why_not_done(rows, spot, kinds_of(left)))


def states(rows, pile, coming, most):
    """The pairs of a spot and the pile then: the one at first, and one behind each row done."""
    refuse_no_kinds(rows, [])
    pairs = [(0, list(pile))]
    # What comes in and isn't taken yet: three lists, in the order of KINDS.
    waiting = list(coming)
    # There is a pair more than rows done.
    while len(pairs) <= most and can_go_on(rows, pairs[-1]):
        pair = pairs[-1]
        pairs.append(pair_behind(rows, pair, waiting))
        waiting = waiting_behind(rows[pair[0]], waiting)
    return pairs


def told_on(rows, pairs):
    """The things told on the way from the first pair to the last."""
    # The row of each pair but the last was done, and a tell tells the upmost thing.
    return [pair[1][-1] for pair in pairs[:-1] if rows[pair[0]][0] == "tell"]


def can_go_on(rows, pair):
    return pair[0] < len(rows) and why_not_done(rows, pair[0], kinds_of(pair[1])) is None


def pair_behind(rows, pair, waiting):
    row = rows[pair[0]]
    pile = pair[1]
    below = pile[:len(pile) - count_taken(row)]
    return (spot_behind(rows, pair), below + things_put(row, pile, waiting))


def spot_behind(rows, pair):
    behind = spots_behind(rows, pair[0])
    if rows[pair[0]][0] == "if" and pair[1][-1]:
        return behind[-1]
    return behind[0]


def waiting_behind(row, waiting):
    return [things[1:] if row == ("take", kind) else things for kind, things in zip(KINDS, waiting)]


def things_put(row, pile, waiting):
    """The things that a row that can be done puts on in the place of those that it takes off."""
    word = row[0]
    if word == "push":
        return [row[1]]
    if word == "take":
        return [thing_taken(row[1], waiting)]
    if word == "not":
        return [not pile[-1]]
    if word == "copy":
        return [pile[len(pile) - 1 - row[1]]]
    if count_taken(row) == 2:
        return put_for_two(word, pile[-2], pile[-1])
    return []


def thing_taken(kind, waiting):
    place = KINDS.index(kind)
    return waiting[place][0] if waiting[place] else BLANKS[place]


def put_for_two(word, lower, upmost):
    if word == "swap":
        return [upmost, lower]
    if word == "less":
        return [lower < upmost]
    if word == "same":
        return [lower == upmost]
    # An add of two numbers and a join of two texts are written alike.
    return [lower + upmost]
