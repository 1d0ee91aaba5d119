"""Rows of pulses: texts of the signs 0 and 1."""

from pulsewright.errors import BadRow


def first_stranger(text):
    """The place of the first sign that no row has, None where the text is a row."""
    for at, sign in enumerate(text):
        if sign != "0" and sign != "1":
            return at
    return None


def check_row(row):
    """BadRow where the text is no row."""
    at = first_stranger(row)
    if at is not None:
        raise BadRow(at)


def swings_along(row):
    """The swings of all beginnings of a row, from the empty one on."""
    here = top = bottom = 0
    swings = [0]
    for sign in row:
        here += 1 if sign == "1" else -1
        top = max(top, here)
        bottom = min(bottom, here)
        # A piece's sum is the sum up to its end less the sum ahead of it,
        # so the farthest two of these sums tell the swing.
        swings.append(top - bottom)
    return swings


def total(row):
    """The sum of a row: the count of its 1s less that of its 0s."""
    check_row(row)
    return row.count("1") - row.count("0")


def swing(row):
    """The greatest size that the sum of a piece of the row has."""
    check_row(row)
    return swings_along(row)[-1]


def gaps(row):
    """The counts of 0s between 1s that have no 1 between them, from the first on."""
    check_row(row)
    # The first and the last run have a 1 on one side only.
    return [len(run) for run in row.split("1")[1:-1]]


def idle(row):
    """The most 0s that stand together."""
    check_row(row)
    return max([len(run) for run in row.split("1")])


def holds(row, piece):
    """Whether the piece is a piece of the row."""
    check_row(row)
    check_row(piece)
    return piece in row
