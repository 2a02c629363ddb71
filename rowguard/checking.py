"""Whether a table stands, and whether a fault is there."""

from rowguard.kinds import kinds_behind, refuse_no_kinds
from rowguard.steps import rows_behind, why_not_done


def table_stands(rows, given, table):
    """Whether a table, with an entry for each row, stands with the kinds given."""
    refuse_no_kinds(rows, given)
    if rows and table[0] != given:
        return False
    return all([entry_stands(rows, table, spot) for spot in range(len(rows))])


def entry_stands(rows, table, spot):
    kinds = table[spot]
    if kinds is None:
        return True
    if why_not_done(rows, spot, kinds) is not None:
        return False
    left = kinds_behind(rows[spot], kinds)
    return all([table[other] == left for other in rows_behind(rows, spot)])


def fault_stands(rows, given, fault):
    """Whether a fault is there with the kinds given."""
    refuse_no_kinds(rows, given)
    ends = [kinds_at_end(rows, given, road) for road in fault[1:]]
    if None in ends:
        return False
    last = fault[1][-1]
    if fault[0] == "differ":
        return last == fault[2][-1] and ends[0] != ends[1]
    return why_not_done(rows, last, ends[0]) == fault[0]


def kinds_at_end(rows, given, road):
    """The kinds on the pile at the end of a road, or None where the numbers are no road."""
    if not rows or road[0] != 0:
        return None
    kinds = given
    for spot, other in zip(road, road[1:]):
        if why_not_done(rows, spot, kinds) is not None or other not in rows_behind(rows, spot):
            return None
        kinds = kinds_behind(rows[spot], kinds)
    return kinds
