"""What the document says of tables, windows and readers, word by word and slowly."""

import itertools

from oracle import gone
from pulsewright.weights import steps, weights
from pulsewright.webs import web


def messages(p, many):
    """All messages of so many pieces of p signs, rising."""
    return ["".join(signs) for signs in itertools.product("01", repeat=p * many)]


def cut(row, by):
    return [row[at:at + by] for at in range(0, len(row), by)]


class SlowTable:
    """A table as [14] and [15] tell it, of the steps and the greatest weights."""

    def __init__(self, rule, p, q, most=8):
        self.p, self.q = p, q
        self.web = web(rule)
        self.weights = weights(rule, p, q, most)
        self.lots = [[(row, goal, share) for row, goal in stand for share in range(self.weights[goal])]
                     for stand in steps(rule, q)]
        self.pairs = [(stand, share) for stand, weight in enumerate(self.weights) for share in range(weight)]

    def step(self, pair, signs):
        stand, share = pair
        row, goal, next_share = self.lots[stand][share * 2 ** self.p + int(signs, 2)]
        return row, (goal, next_share)

    def write(self, message, pair=(0, 0)):
        row = ""
        for signs in cut(message, self.p):
            more, pair = self.step(pair, signs)
            row += more
        return row, pair

    def all_written(self, many, pair=(0, 0)):
        """For each message of so many pieces the row and the pair behind it."""
        return {message: self.write(message, pair) for message in messages(self.p, many)}

    def ends(self, pairs, blocks):
        """All pairs at which a writer of these blocks can stand that stood at one of these pairs."""
        for block in blocks:
            moves = [self.step(pair, signs) for pair in pairs for signs in messages(self.p, 1)]
            pairs = {goal for row, goal in moves if row == block}
        return pairs

    def can_write(self, pair, blocks):
        return bool(self.ends({pair}, blocks))


def slow_memory(stands, most):
    """The memory where it is not above most, else None: all rows are gone from all stands."""
    level = [set(range(len(stands)))]
    for signs in range(most + 1):
        if all(len(ends) <= 1 for ends in level):
            return signs
        level = [{stands[stand][sign] for stand in ends} - {None} for ends in level for sign in (0, 1)]
        level = [set(ends) for ends in {frozenset(ends) for ends in level}]
    return None


def slow_ahead(table, most):
    """What a table looks ahead where that is not above most, else None: any two shares, by all same blocks."""
    level = {(stand, one, other) for stand, weight in enumerate(table.weights)
             for one in range(weight) for other in range(weight) if one != other}
    for blocks in range(most + 1):
        if not level:
            return blocks
        further = set()
        for stand, one, other in level:
            ones = [table.step((stand, one), signs) for signs in messages(table.p, 1)]
            others = [table.step((stand, other), signs) for signs in messages(table.p, 1)]
            further |= {(goal, share, other_share) for row, (goal, share) in ones
                        for other_row, (other_goal, other_share) in others if row == other_row}
        level = further
    return None


def slow_block(table, memory, ahead, row, at, late):
    """What [19] tells of the block, by its words."""
    blocks = cut(row, table.q)
    before = row[:at * table.q]
    if len(blocks) - at - 1 < ahead or (late and len(before) < memory):
        return None
    rest = blocks[at:at + 1 + ahead]
    near = before[len(before) - memory:] if len(before) >= memory else before
    if "?" in near + "".join(rest):
        return None
    starts = range(len(table.web)) if len(before) >= memory else [0]
    stands = {gone(table.web, stand, near) for stand in starts} - {None}
    assert len(stands) <= 1
    if not stands:
        return None
    stand = stands.pop()
    told = {signs for share in range(table.weights[stand]) for signs in messages(table.p, 1)
            if table.step((stand, share), signs)[0] == rest[0]
            and table.can_write(table.step((stand, share), signs)[1], rest[1:])}
    assert len(told) <= 1
    return told.pop() if told else None


def slow_slide(table, memory, ahead, row, late):
    return [slow_block(table, memory, ahead, row, at, late) for at in range(len(row) // table.q)]
