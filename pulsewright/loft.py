"""A loft: rules, tables and lines by name, and deeds that can be taken back."""

from pulsewright.deeds import Shelf, found, shelf_behind, tidy_deed
from pulsewright.errors import NothingLeft
from pulsewright.lines import faults_of, read_of, spoilt_of


class Loft:
    """Rules, tables and lines by name, as the deeds that stand have left them."""

    def __init__(self):
        self.shelf = Shelf({}, {}, {})
        # Each is a deed with the shelf ahead of it and the one behind it.
        self.standing = []
        self.taken_back = []

    def rule(self, name, words=None, low=0, high=None, span=None):
        """A new rule."""
        self.do(("rule", name, words, low, high, span))

    def bar(self, name, word):
        """The rule bars one word more."""
        self.do(("bar", name, word))

    def free(self, name, word):
        """The rule bars a word no more."""
        self.do(("free", name, word))

    def bound(self, name, low, high, span):
        """The rule has these bounds."""
        self.do(("bound", name, low, high, span))

    def forget(self, name):
        """The rule is no more."""
        self.do(("forget", name))

    def table(self, name, rule, p, q, most=8):
        """A new table, of the rule as it is now."""
        self.do(("table", name, rule, p, q, most))

    def drop(self, name):
        """The table is no more."""
        self.do(("drop", name))

    def line(self, name, table):
        """A new line, without signs."""
        self.do(("line", name, table))

    def write(self, name, message):
        """A message more is written on the line."""
        self.do(("write", name, message))

    def turn(self, name, at):
        """The other sign stands at that place of the line."""
        self.do(("turn", name, at))

    def wipe(self, name, at, many=1):
        """So many signs of the line from that place on can't be read any more."""
        self.do(("wipe", name, at, many))

    def cut(self, name, many):
        """So many blocks at the line's beginning are gone."""
        self.do(("cut", name, many))

    def burn(self, name):
        """The line is no more."""
        self.do(("burn", name))

    def do(self, deed):
        """Does a deed that is told as a tuple."""
        tidy = tidy_deed(deed)
        after = shelf_behind(self.shelf, tidy)
        self.standing.append((tidy, self.shelf, after))
        self.taken_back = []
        self.shelf = after

    def undo(self):
        """Takes the last deed back that stands, and tells it."""
        if not self.standing:
            raise NothingLeft("no deed stands")
        last = self.standing.pop()
        self.taken_back.append(last)
        deed, self.shelf, after = last
        return deed

    def redo(self):
        """Does the deed again that was taken back last, and tells it."""
        if not self.taken_back:
            raise NothingLeft("no deed can be done again")
        last = self.taken_back.pop()
        self.standing.append(last)
        deed, before, self.shelf = last
        return deed

    def deeds(self):
        """The deeds that stand, the eldest first."""
        return [deed for deed, before, after in self.standing]

    def undone(self):
        """The deeds that can be done again, the next one first."""
        return [deed for deed, before, after in reversed(self.taken_back)]

    def twin(self):
        """A Loft that has all that this one has."""
        other = Loft()
        other.shelf = self.shelf
        other.standing = list(self.standing)
        other.taken_back = list(self.taken_back)
        return other

    def rules(self):
        """The names of the rules, rising."""
        return sorted(list(self.shelf.kept_rules))

    def tables(self):
        """The names of the tables, rising."""
        return sorted(list(self.shelf.kept_tables))

    def lines(self):
        """The names of the lines, rising."""
        return sorted(list(self.shelf.kept_lines))

    def rule_of(self, name):
        """The Rule of that name."""
        return found(self.shelf.kept_rules, name)

    def table_of(self, name):
        """The Table of that name."""
        return found(self.shelf.kept_tables, name)

    def line_of(self, name):
        """The Line of that name."""
        return found(self.shelf.kept_lines, name)

    def tape(self, name):
        """The line's row as it stands."""
        return self.line_of(name).signs

    def told(self, name):
        """The message that was written on the line."""
        return self.line_of(name).message

    def pair(self, name):
        """The pair at which the line's writer stands."""
        return self.line_of(name).writer

    def late(self, name):
        """Whether the line begins late."""
        return self.line_of(name).begins_late

    def used(self, name):
        """The name of the line's table."""
        return self.line_of(name).table_name

    def faults(self, name):
        """The places of the line at which something else stands than was written."""
        return faults_of(self.line_of(name))

    def spoilt(self, name):
        """The numbers of the line's blocks that its faults spoil."""
        return spoilt_of(self.line_of(name))

    def read(self, name):
        """For each block of the line the signs that wrote it, None where they aren't told."""
        return read_of(self.line_of(name))

    def __eq__(self, other):
        return isinstance(other, Loft) and self.deeds() == other.deeds()

    def __len__(self):
        return len(self.shelf.kept_lines)

    def __repr__(self):
        return f"Loft({len(self.rules())} rules, {len(self.tables())} tables, {len(self.lines())} lines)"
