"""Rows are looked through: a table of the kinds on the pile at each row is told, or a fault."""

from rowguard.kinds import kinds_behind, refuse_no_kinds
from rowguard.steps import rows_behind, why_not_done


def looked(rows, given):
    """The pair ("fine", table), or ("fault", fault) with the first fault that a walk along all roads meets."""
    refuse_no_kinds(rows, given)
    # An arrival is a pair: a road, and the kinds on the pile at its end.
    # A row is gone on from at its first arrival alone: any later one brings the same kinds or is a fault,
    # so the walk ends also where roads don't.
    first = {}
    waiting = [([0], given)] if rows else []
    while waiting:
        arrival = waiting.pop(0)
        spot = arrival[0][-1]
        fault = fault_of(rows, first.get(spot), arrival)
        if fault is not None:
            return ("fault", fault)
        if spot not in first:
            first[spot] = arrival
            waiting.extend(arrivals_behind(rows, arrival))
    return ("fine", table_of(rows, first))


def fault_of(rows, earlier, arrival):
    """The fault that an arrival shows beside an earlier one at the same row (None for no earlier one), else None."""
    road = arrival[0]
    kinds = arrival[1]
    if earlier is not None and earlier[1] != kinds:
        return ("differ", earlier[0], road)
    why = why_not_done(rows, road[-1], kinds)
    if why is not None:
        return (why, road)
    return None


def arrivals_behind(rows, arrival):
    road = arrival[0]
    kinds = kinds_behind(rows[road[-1]], arrival[1])
    return [(road + [spot], kinds) for spot in rows_behind(rows, road[-1])]


def table_of(rows, first):
    # The first arrival has the list handed in, and the two behind an if share one: each row gets a list of its own.
    return [list(first[spot][1]) if spot in first else None for spot in range(len(rows))]
