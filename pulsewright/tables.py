"""Tables by which every message is written as a row of a rule."""

from pulsewright.blocks import all_blocks, blocks_of, check_length
from pulsewright.errors import BadLength, BadNumber, BadPair, NoTable, Unread
from pulsewright.rows import check_row
from pulsewright.webs import along, web
from pulsewright.weights import check_pace, lowered, steps_from

START = (0, 0)


def lots_from(stands, sizes, stand, q):
    """All lots of a stand, in their order."""
    return [(row, goal, share) for row, goal in steps_from(stands, stand, q) for share in range(sizes[goal])]


def moves_of(stand_lots, sizes, p):
    """For each pair, rising, the row and the next pair by each p signs of a message."""
    choices = all_blocks(p)
    many = len(choices)
    moves = {}
    for stand, lots in enumerate(stand_lots):
        for share in range(sizes[stand]):
            own = lots[share * many:share * many + many]
            moves[(stand, share)] = {
                signs: (row, (goal, next_share)) for signs, (row, goal, next_share) in zip(choices, own)}
    return moves


def sources_of(moves):
    """For each stand, row and share of its goal that are written so, the stand's share and the signs that do it."""
    return {(pair[0], row, goal[1]): (pair[1], signs)
            for pair in moves for signs, (row, goal) in moves[pair].items()}


class Table:
    """A rule at a good pace, with the greatest weights."""

    def __init__(self, rule, p, q, most=8):
        check_pace(p, q, most)
        stands = web(rule)
        sizes = lowered(stands, p, q, most)[0]
        if not any(sizes):
            raise NoTable(f"the pace {p}, {q} is not good with weights up to {most}")
        self.law = rule.bounded(rule.low(), rule.high(), rule.span())
        self.p_signs = p
        self.q_signs = q
        self.ways = stands
        self.sizes = sizes
        self.stand_lots = [lots_from(stands, sizes, stand, q) for stand in range(len(stands))]
        self.moves = moves_of(self.stand_lots, sizes, p)
        self.sources = sources_of(self.moves)

    def rule(self):
        """The rule of which it is made."""
        return self.law

    def pace(self):
        """The signs of a message, and of a row, that are written at once."""
        return (self.p_signs, self.q_signs)

    def weights(self):
        """The weights of the stands."""
        return list(self.sizes)

    def pairs(self):
        """All (stand, share), rising."""
        return list(self.moves)

    def lots(self, stand):
        """All lots (row, goal, share) of a stand."""
        if not 0 <= stand < len(self.stand_lots):
            raise BadNumber(f"no stand has the number {stand}")
        return list(self.stand_lots[stand])

    def check_pair(self, pair):
        """BadPair where that is no pair of the table."""
        if pair not in self.moves:
            raise BadPair(f"no pair of the table: {pair}")

    def step(self, pair, signs):
        """The row that p signs write from a pair, and the next pair."""
        self.check_pair(pair)
        check_row(signs)
        if len(signs) != self.p_signs:
            raise BadLength(self.p_signs)
        return self.moves[pair][signs]

    def write(self, message, pair=None):
        """The row that a message writes from a pair, and the pair behind it."""
        check_row(message)
        check_length(message, self.p_signs)
        here = START if pair is None else pair
        self.check_pair(here)
        rows = []
        for signs in blocks_of(message, self.p_signs):
            row, here = self.moves[here][signs]
            rows.append(row)
        return ("".join(rows), here)

    def traced(self, passed, blocks, share):
        """The share from which blocks that pass these stands led to a share, and their signs, None where none did."""
        here = share
        parts = []
        for stand, block in reversed(list(zip(passed, blocks))):
            # Each lot is taken by one share at most.
            source = self.sources.get((stand, block, here))
            if source is None:
                return None
            here, signs = source
            parts.append(signs)
        return here, parts[::-1]

    def read(self, row, pair):
        """The message that wrote a row from (0, 0) on and led to a pair."""
        check_row(row)
        check_length(row, self.q_signs)
        self.check_pair(pair)
        # The row alone tells the stands it passes; from behind it is read on by their shares.
        passed = along(self.ways, row)[::self.q_signs]
        blocks = blocks_of(row, self.q_signs)
        if len(passed) <= len(blocks) or passed[-1] != pair[0]:
            raise Unread("the row leads to another stand, or to none")
        traced = self.traced(passed, blocks, pair[1])
        if traced is None or traced[0] != START[1]:
            raise Unread("no message writes the row so")
        return "".join(traced[1])

    def __eq__(self, other):
        return (isinstance(other, Table) and self.p_signs == other.p_signs
                and self.q_signs == other.q_signs and self.moves == other.moves)

    def __len__(self):
        return len(self.moves)
