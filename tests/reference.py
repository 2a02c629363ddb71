"""What the tests hold the program against: rows done with things themselves, and roads walked one by one.

Nothing here is drawn from the program, so that a fault of the program isn't shared.
"""

SAMPLES = {"number": 7, "truth": True, "text": "seven"}
KINDS = ["number", "truth", "text"]
WORDS = ["push", "take", "add", "less", "join", "not", "same", "copy", "drop", "swap", "tell", "go", "if", "end"]
HUGE = 10 ** 32 - 1  # thirty-two figures


class CantBeDone(Exception):
    pass


def kind_of(thing):
    return {bool: "truth", int: "number", str: "text"}[type(thing)]


def off(pile, *kinds):
    """Takes as many things off as kinds are told, upmost first; None stands for any kind."""
    if len(pile) < len(kinds):
        raise CantBeDone("few")
    things = [pile.pop() for kind in kinds]
    for thing, kind in zip(things, kinds):
        if kind is not None and kind_of(thing) != kind:
            raise CantBeDone("kind")
    return things


def do_row(row, pile):
    """Does a row with a pile of things, in place; CantBeDone with the reason few or kind."""
    match row:
        case ("push", thing):
            pile.append(thing)
        case ("take", kind):
            pile.append({"number": 0, "truth": False, "text": ""}[kind])
        case ("add",):
            upmost, lower = off(pile, "number", "number")
            pile.append(lower + upmost)
        case ("less",):
            upmost, lower = off(pile, "number", "number")
            pile.append(lower < upmost)
        case ("join",):
            upmost, lower = off(pile, "text", "text")
            pile.append(lower + upmost)
        case ("not",):
            pile.append(not off(pile, "truth")[0])
        case ("same",):
            upmost, lower = off(pile, None, None)
            if kind_of(upmost) != kind_of(lower):
                raise CantBeDone("kind")
            pile.append(upmost == lower)
        case ("copy", depth):
            if not 0 <= depth < len(pile):
                raise CantBeDone("few")
            pile.append(pile[::-1][depth])
        case ("drop",) | ("tell",):
            off(pile, None)
        case ("swap",):
            pile.extend(off(pile, None, None))
        case ("if", _):
            off(pile, "truth")
        case ("go", _) | ("end",):
            pass
        case _:
            raise AssertionError(f"no row: {row!r}")


def go_through(rows, pile, coming, most):
    """What becomes of a run, and the pairs of a spot and the pile that it comes to."""
    pile, spot, done, told = list(pile), 0, 0, []
    waiting = {kind: list(things) for kind, things in zip(KINDS, coming)}
    pairs = [(spot, tuple(pile))]
    while spot != len(rows):
        if done == most:
            return ("stopped", told, pile), pairs
        row = rows[spot]
        upmost = pile[-1:]
        try:
            do_row(row, pile)
        except CantBeDone as why:
            return ("fell", spot, str(why)), pairs
        if row[0] in ("go", "if") and not 0 <= row[1] <= len(rows):
            return ("fell", spot, "jump"), pairs
        if row[0] == "take" and waiting[row[1]]:
            pile[-1] = waiting[row[1]].pop(0)
        if row[0] == "tell":
            told += upmost
        if row[0] == "end":
            spot = len(rows)
        elif row[0] == "go" or row[0] == "if" and upmost == [True]:
            spot = row[1]
        else:
            spot += 1
        done += 1
        pairs.append((spot, tuple(pile)))
    return ("ended", told, pile), pairs


def lack(row, kinds):
    try:
        do_row(row, [SAMPLES[kind] for kind in kinds])
    except CantBeDone as why:
        return str(why)
    return None


def behind(row, kinds):
    pile = [SAMPLES[kind] for kind in kinds]
    do_row(row, pile)
    return [kind_of(thing) for thing in pile]


def reason(rows, spot, kinds):
    why = lack(rows[spot], kinds)
    if why is None and rows[spot][0] in ("go", "if") and rows[spot][1] not in range(len(rows) + 1):
        return "jump"
    return why


def next_rows(rows, spot):
    """The numbers of the rows, not the spot behind the last one, that may come behind a row."""
    row = rows[spot]
    spots = {"end": [], "go": row[1:], "if": [spot + 1, *row[1:]]}.get(row[0], [spot + 1])
    return [spot for spot in spots if spot < len(rows)]


def kinds_at_end(rows, given, road):
    """The kinds on the pile at a road's end, or None where it is no road."""
    if not isinstance(road, list) or not rows or road[:1] != [0]:
        return None
    kinds = list(given)
    for spot, following in zip(road, road[1:]):
        if reason(rows, spot, kinds) is not None or following not in next_rows(rows, spot):
            return None
        kinds = behind(rows[spot], kinds)
    return kinds


def fault_is_there(rows, given, fault):
    ends = [kinds_at_end(rows, given, road) for road in fault[1:]]
    if None in ends:
        return False
    if fault[0] == "differ":
        return len(ends) == 2 and fault[1][-1] == fault[2][-1] and ends[0] != ends[1]
    return len(ends) == 1 and fault[0] is not None and reason(rows, fault[1][-1], ends[0]) == fault[0]


def table_is_sound(rows, given, table):
    """Whether a table stands by point 9."""
    if len(table) != len(rows) or (rows and table[0] != given):
        return False
    for spot, kinds in enumerate(table):
        if kinds is None:
            continue
        if reason(rows, spot, kinds) is not None:
            return False
        if any(table[other] != behind(rows[spot], kinds) for other in next_rows(rows, spot)):
            return False
    return True


def only_table(rows, given):
    """The table in which just the rows at the ends of roads have kinds, or None where a fault is there.

    With no fault every row has one list of kinds at most; so where more arrivals than rows
    are found, two of them differ at one row.
    """
    arrivals = [(0, list(given))] if rows else []
    for spot, kinds in arrivals:
        if reason(rows, spot, kinds) is not None or len(arrivals) > len(rows):
            return None
        for other in next_rows(rows, spot):
            if (other, behind(rows[spot], kinds)) not in arrivals:
                arrivals.append((other, behind(rows[spot], kinds)))
    if len({spot for spot, kinds in arrivals}) < len(arrivals):
        return None
    return [dict(arrivals).get(spot) for spot in range(len(rows))]
