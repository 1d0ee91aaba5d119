"""What the document says of rows and rules, word by word and slowly."""

import itertools


def all_rows(most):
    """All rows of up to that many signs, in their order."""
    for many in range(most + 1):
        for signs in itertools.product("01", repeat=many):
            yield "".join(signs)


def pieces(row):
    """All pieces of a row, with the empty one."""
    return {row[start:end] for start in range(len(row) + 1) for end in range(start, len(row) + 1)}


def slow_total(row):
    return sum(1 if sign == "1" else -1 for sign in row)


def slow_swing(row):
    return max(abs(slow_total(piece)) for piece in pieces(row))


def slow_gaps(row):
    pulses = [at for at, sign in enumerate(row) if sign == "1"]
    return [after - before - 1 for before, after in zip(pulses, pulses[1:])]


def slow_idle(row):
    return max(len(piece) for piece in pieces(row) if "1" not in piece)


def slow_lets(row, words=(), low=0, high=None, span=None):
    if any(word in pieces(row) for word in words):
        return False
    if any(gap < low for gap in slow_gaps(row)):
        return False
    if high is not None and slow_idle(row) > high:
        return False
    return span is None or slow_swing(row) <= span


def slow_fault(row, words=(), low=0, high=None, span=None):
    for signs in range(len(row) + 1):
        if not slow_lets(row[:signs], words, low, high, span):
            return signs
    return None


def gone(stands, stand, row):
    """The stand to which a row leads from a stand, None where it can't be gone."""
    for sign in row:
        if stand is None:
            return None
        stand = stands[stand][int(sign)]
    return stand


# A row that isn't lasting has ended by then, by whichever rule; so far as tests go through rules.
FAR_AHEAD = 40


def slow_lasting(rule, row):
    """Whether some lawful row goes on from this one for so long that it must go on for ever."""
    if not rule.lets(row):
        return False
    waiting = [row]
    while waiting:
        longer = waiting.pop()
        if len(longer) == len(row) + FAR_AHEAD:
            return True
        waiting += [longer + sign for sign in "10" if rule.lets(longer + sign)]
    return False


class SlowRows:
    """The lasting rows of a rule, each looked for one by one, and what is told of them."""

    def __init__(self, rule):
        self.rule = rule
        self.known = {}

    def lasts(self, row):
        if row not in self.known:
            self.known[row] = slow_lasting(self.rule, row)
        return self.known[row]

    def rows(self, signs):
        """All lasting rows of so many signs, in their order."""
        told = [""] if self.lasts("") else []
        for _ in range(signs):
            told = [row + sign for row in told for sign in "01" if self.lasts(row + sign)]
        return told

    def behind(self, row, signs):
        """All rows of up to so many signs that, set behind the row, make lasting rows."""
        told = level = [""]
        for _ in range(signs):
            level = [more + sign for more in level for sign in "01" if self.lasts(row + more + sign)]
            told = told + level
        return tuple(told)

    def web(self, signs):
        """The web, and the first row to each stand, where rows of up to so many signs part all stands."""
        if not self.lasts(""):
            return [], []
        firsts = [""]
        stands = [self.behind("", signs)]
        pairs = []
        for row in firsts:
            pair = []
            for longer in (row + "0", row + "1"):
                told = self.behind(longer, signs) if self.lasts(longer) else None
                if told is not None and told not in stands:
                    stands.append(told)
                    firsts.append(longer)
                pair.append(None if told is None else stands.index(told))
            pairs.append(tuple(pair))
        return pairs, firsts
