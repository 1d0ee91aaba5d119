"""Rows cut into blocks of as many signs."""

from pulsewright.errors import BadLength


def check_length(row, by):
    """BadLength where the row isn't cut evenly into blocks of so many signs."""
    if len(row) % by != 0:
        raise BadLength(by)


def blocks_of(row, by):
    """The blocks of a row, from the first on."""
    return [row[at:at + by] for at in range(0, len(row), by)]


def all_blocks(signs):
    """All rows of so many signs, in their order."""
    rows = [""]
    for turn in range(signs):
        rows = [row + sign for row in rows for sign in "01"]
    return rows
