"""A reader that is fed a row in pieces and tells what can have been written."""

from pulsewright.blocks import blocks_of
from pulsewright.errors import BadLength, Unread
from pulsewright.rows import check_row
from pulsewright.tables import START


def messages_with(table, written, block):
    """The messages by pair that also write this block."""
    longer = {}
    for pair in written:
        for signs, (row, goal) in table.moves[pair].items():
            if row == block:
                longer[goal] = written[pair] + signs
    return longer


def goes_on(table, written, begun):
    """Whether some message can be written on by a block that begins so."""
    return any([row.startswith(begun) for pair in written for row, goal in table.moves[pair].values()])


class Reader:
    """What can have been written of a row that began at the pair (0, 0)."""

    def __init__(self, table):
        self.coder = table
        self.row_fed = ""
        self.left_over = ""
        self.written = {START: ""}

    def feed(self, piece):
        """Reads on by a piece of the row."""
        check_row(piece)
        signs = self.left_over + piece
        whole = len(signs) - len(signs) % self.coder.q_signs
        written = self.written
        for block in blocks_of(signs[:whole], self.coder.q_signs):
            written = messages_with(self.coder, written, block)
        if not goes_on(self.coder, written, signs[whole:]):
            raise Unread("no message is written so")
        self.row_fed += piece
        self.left_over = signs[whole:]
        self.written = written

    def choices(self):
        """The messages by which the whole blocks can have been written, rising."""
        return sorted(list(self.written.values()))

    def sure(self):
        """The longest beginning of whole steps that these messages have in common."""
        told = self.choices()
        p = self.coder.p_signs
        same = 0
        # They are of as many signs, so what the first and the last one begin with all do.
        while same < len(told[0]) and told[0][same:same + p] == told[-1][same:same + p]:
            same += p
        return told[0][:same]

    def fed(self):
        """The row fed so far."""
        return self.row_fed

    def ended(self, pair):
        """The message, if its writer stands at that pair."""
        if self.left_over:
            raise BadLength(self.coder.q_signs)
        self.coder.check_pair(pair)
        if pair not in self.written:
            raise Unread("no message leads to that pair")
        return self.written[pair]

    def twin(self):
        """A Reader that was fed the same."""
        other = Reader(self.coder)
        other.row_fed = self.row_fed
        other.left_over = self.left_over
        other.written = {pair: self.written[pair] for pair in self.written}
        return other
