"""What the document says of rows and rules, word by word and slowly."""

import itertools


def all_rows(most):
    """All rows of up to that many signs, in their order."""
    for many in range(most + 1):
        for signs in itertools.product("01", repeat=many):
            yield "".join(signs)


def pieces(row):
    """All pieces of a row, with the empty one."""
    return {row[start:end] for start in range(len(row) + 1) for end in range(start, len(row) + 1)}


def slow_total(row):
    return sum(1 if sign == "1" else -1 for sign in row)


def slow_swing(row):
    return max(abs(slow_total(piece)) for piece in pieces(row))


def slow_gaps(row):
    pulses = [at for at, sign in enumerate(row) if sign == "1"]
    return [after - before - 1 for before, after in zip(pulses, pulses[1:])]


def slow_idle(row):
    return max(len(piece) for piece in pieces(row) if "1" not in piece)


def slow_lets(row, words=(), low=0, high=None, span=None):
    if any(word in pieces(row) for word in words):
        return False
    if any(gap < low for gap in slow_gaps(row)):
        return False
    if high is not None and slow_idle(row) > high:
        return False
    return span is None or slow_swing(row) <= span


def slow_fault(row, words=(), low=0, high=None, span=None):
    for signs in range(len(row) + 1):
        if not slow_lets(row[:signs], words, low, high, span):
            return signs
    return None
