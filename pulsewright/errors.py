"""The refusals of the program, each with the field that tells more of it."""


class PulseError(ValueError):
    """What rows, rules, webs, weights, tables and texts refuse."""


class BadRow(PulseError):
    """A text has a sign that no row has; `at` is the place of the first one."""

    def __init__(self, at):
        super().__init__(f"a sign that no row has at place {at}")
        self.at = at


class BadRule(PulseError):
    """No rule is made so; `part` is `words`, `low`, `high` or `span`."""

    def __init__(self, part):
        super().__init__(f"no rule has such a part: {part}")
        self.part = part


class BadPace(PulseError):
    """No pace is made so; `part` is `p`, `q` or `most`."""

    def __init__(self, part):
        super().__init__(f"no pace has such a part: {part}")
        self.part = part


class BadCount(PulseError):
    """Rows of so many signs aren't numbered."""


class BadNumber(PulseError):
    """No stand and no row has that number."""


class BadWeights(PulseError):
    """Not as many weights as stands, or one below 0."""


class TooWide(PulseError):
    """A rule's web is too wide; `stands` is how many stands it has."""

    def __init__(self, stands):
        super().__init__(f"the web has too many stands: {stands}")
        self.stands = stands


class Unlawful(PulseError):
    """A row isn't lasting; `at` is how many signs its longest lasting beginning has."""

    def __init__(self, at):
        super().__init__(f"the row lasts no longer than its first {at} signs")
        self.at = at


class Unread(PulseError):
    """There is no message by which that was written."""


class BadLength(PulseError):
    """A length is no multiple of `by`."""

    def __init__(self, by):
        super().__init__(f"the length is no multiple of {by}")
        self.by = by


class BadPair(PulseError):
    """That is no pair of the table."""


class NoTable(PulseError):
    """The pace isn't good for the rule."""


class Endless(PulseError):
    """The table doesn't slide."""


class BadText(PulseError):
    """A text is refused; `row` is the number of its first line that is."""

    def __init__(self, row):
        super().__init__(f"line {row} can't be read")
        self.row = row


class BadName(PulseError):
    """A name is one to eight letters from a to z."""


class LoftError(LookupError):
    """What a loft refuses for what it has or hasn't."""


class Absent(LoftError):
    """There is nothing of that `name`."""

    def __init__(self, name):
        super().__init__(f"there is no {name}")
        self.name = name


class Taken(LoftError):
    """There is something of that `name` already."""

    def __init__(self, name):
        super().__init__(f"there is {name} already")
        self.name = name


class Full(LoftError):
    """One more is one too many."""


class Held(LoftError):
    """A line has the table."""


class TooLong(LoftError):
    """The line's row would have too many signs."""


class NoSign(LoftError):
    """No such sign or block stands there."""


class NothingLeft(LoftError):
    """There is nothing to take back or to do again."""
