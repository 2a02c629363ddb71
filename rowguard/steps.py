"""What holds of a row among its rows: whether it can be done, and the spots that may come behind it."""

from rowguard.kinds import lack_of_row


def why_not_done(rows, spot, kinds):
    """The reason few, kind or jump for which the row at a spot can't be done with these kinds, else None."""
    why = lack_of_row(rows[spot], kinds)
    if why is None and jumps_astray(rows, spot):
        return "jump"
    return why


def jumps_astray(rows, spot):
    row = rows[spot]
    if row[0] != "go" and row[0] != "if":
        return False
    # The number behind the last row is a spot too.
    return row[1] < 0 or row[1] > len(rows)


def spots_behind(rows, spot):
    """The spots that may come behind the row at a spot, where that row can be done; the one an if jumps to last."""
    row = rows[spot]
    if row[0] == "end":
        return [len(rows)]
    if row[0] == "go":
        return [row[1]]
    if row[0] == "if":
        return [spot + 1, row[1]]
    return [spot + 1]


def rows_behind(rows, spot):
    """The numbers of the rows that may come behind the row at a spot; the spot behind the last row is no row."""
    return [other for other in spots_behind(rows, spot) if other < len(rows)]
