"""Rows, piles and what comes in, drawn for the tests; each test draws with a fixed seed, the same on each run."""

from reference import HUGE, KINDS, WORDS

NUMBERS = [0, 1, -1, 5, -3, 12, HUGE, -HUGE]
TEXTS = ["", "a", "b", "True", "number", "x" * 100, " ~"]


def drawn_thing(draw, kind):
    return draw.choice({"number": NUMBERS, "truth": [True, False], "text": TEXTS}[kind])


def drawn_pile(draw, kinds):
    return [drawn_thing(draw, kind) for kind in kinds]


def drawn_coming(draw):
    return tuple(drawn_pile(draw, [kind] * draw.randint(0, 6)) for kind in KINDS)


def drawn_row(draw, count):
    word = draw.choice(WORDS)
    if word == "push":
        return (word, draw.choice([0, -3, HUGE, True, False, "", "text"]))
    if word == "take":
        return (word, draw.choice(KINDS))
    if word == "copy":
        return (word, draw.randint(-1, 4))
    if word in ("go", "if"):
        return (word, draw.randint(0, count) if draw.random() < 0.9 else draw.choice([-1, count + 1, HUGE]))
    return (word,)


def gentle_rows(draw, blocks):
    """Blocks of rows that leave the pile as they found it, with jumps between them that are mostly to a block."""
    starts = []
    rows = []
    for block in range(blocks):
        starts.append(len(rows))
        rows += draw.choice([
            [("push", 1), ("drop",)], [("take", "text"), ("tell",)], [("take", "truth"), ("if", None)],
            [("copy", 0), ("join",)], [("swap",), ("push", 4), ("add",), ("swap",)], [("go", None)], [("end",)],
            [("copy", 1), ("push", 3), ("less",), ("if", None)], [("copy", 0), ("copy", 0), ("same",), ("not",),
                                                                 ("if", None)]])
    starts.append(len(rows))
    if draw.random() < 0.5:
        starts += [draw.randint(-1, len(rows) + 1)] * 10
    return [(row[0], draw.choice(starts)) if row[0] in ("go", "if") else row for row in rows]
