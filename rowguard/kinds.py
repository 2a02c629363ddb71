"""The kinds of things, and what each row asks of the kinds on the pile and leaves there."""

from rowguard.errors import NoKind

KINDS = ("number", "truth", "text")

# For each word the kinds that are taken off, the upmost one last; None stands for any kind.
# A swap takes its two things off and puts them back; a copy only counts, so it takes nothing.
TAKEN = {
    "push": (),
    "take": (),
    "add": ("number", "number"),
    "less": ("number", "number"),
    "join": ("text", "text"),
    "not": ("truth",),
    "same": (None, None),
    "copy": (),
    "drop": (None,),
    "swap": (None, None),
    "tell": (None,),
    "go": (),
    "if": ("truth",),
    "end": (),
}

# The kind that a word puts on, for the words that always put on the same one.
PUT = {
    "add": "number",
    "less": "truth",
    "join": "text",
    "not": "truth",
    "same": "truth",
}


def kind_of(thing):
    """The kind of a thing."""
    # Python counts True and False among the whole numbers, so they are asked for first.
    if isinstance(thing, bool):
        return "truth"
    if isinstance(thing, int):
        return "number"
    return "text"


def kinds_of(pile):
    """The kinds of the things on a pile."""
    return [kind_of(thing) for thing in pile]


def refuse_no_kinds(rows, given):
    """Refuses with NoKind where a take is of no kind, or a given text is none."""
    taken = [row[1] for row in rows if row[0] == "take"]
    for kind in taken + given:
        if kind not in KINDS:
            raise NoKind(f"no kind: {kind!r}")


def lack_of_row(row, kinds):
    """The reason few or kind for which a row can't be done with these kinds on the pile, else None."""
    if has_few(row, kinds):
        return "few"
    if has_wrong_kind(row, kinds):
        return "kind"
    return None


def count_taken(row):
    """How many things a row takes off."""
    return len(TAKEN[row[0]])


def has_few(row, kinds):
    if row[0] == "copy":
        return row[1] < 0 or row[1] >= len(kinds)
    return len(kinds) < count_taken(row)


def has_wrong_kind(row, kinds):
    """Whether a thing taken off is of a wrong kind; as many as are taken off are there."""
    asked = TAKEN[row[0]]
    upmost = kinds[len(kinds) - count_taken(row):]
    if row[0] == "same":
        return upmost[0] != upmost[1]
    return any([wanted is not None and wanted != kind for wanted, kind in zip(asked, upmost)])


def kinds_behind(row, kinds):
    """The kinds on the pile behind a row that can be done, a new list."""
    return kinds[:len(kinds) - count_taken(row)] + kinds_put(row, kinds)


def kinds_put(row, kinds):
    word = row[0]
    if word == "push":
        return [kind_of(row[1])]
    if word == "take":
        return [row[1]]
    if word == "copy":
        return [kinds[len(kinds) - 1 - row[1]]]
    if word == "swap":
        return [kinds[-1], kinds[-2]]
    if word in PUT:
        return [PUT[word]]
    return []
