"""The deeds of a loft: each tells the shelf as it is behind the deed, and leaves the one ahead as it was."""

from pulsewright.errors import Absent, BadName, Full, Held, NoSign, Taken, TooLong
from pulsewright.lines import Line, cut_down, turned, wiped, written_on
from pulsewright.rules import Rule
from pulsewright.tables import START, Table
from pulsewright.windows import LOST

LETTERS = "abcdefghijklmnopqrstuvwxyz"
LONGEST_NAME = 8
MOST_RULES = 8
MOST_TABLES = 6
MOST_LINES = 6
LONGEST_LINE = 240


class Shelf:
    """All rules, tables and lines by name. None of it is ever changed, so what was before a deed is still there."""

    def __init__(self, kept_rules, kept_tables, kept_lines):
        self.kept_rules = kept_rules
        self.kept_tables = kept_tables
        self.kept_lines = kept_lines


def with_rules(shelf, kept):
    return Shelf(kept, shelf.kept_tables, shelf.kept_lines)


def with_tables(shelf, kept):
    return Shelf(shelf.kept_rules, kept, shelf.kept_lines)


def with_lines(shelf, kept):
    return Shelf(shelf.kept_rules, shelf.kept_tables, kept)


def without(kept, name):
    """What is kept but that of the name."""
    return {other: kept[other] for other in kept if other != name}


def check_new(kept, name):
    """BadName or Taken where nothing new may bear the name."""
    if not 1 <= len(name) <= LONGEST_NAME or any([letter not in LETTERS for letter in name]):
        raise BadName("a name is one to eight letters from a to z")
    if name in kept:
        raise Taken(name)


def check_room(kept, most):
    """Full where one more is too many."""
    if len(kept) >= most:
        raise Full(f"there are {most} already")


def found(kept, name):
    """What bears the name; Absent where nothing does."""
    if name not in kept:
        raise Absent(name)
    return kept[name]


def add_rule(shelf, name, words, low, high, span):
    check_new(shelf.kept_rules, name)
    rule = Rule(list(words), low, high, span)
    check_room(shelf.kept_rules, MOST_RULES)
    return with_rules(shelf, {**shelf.kept_rules, name: rule})


def bar_word(shelf, name, word):
    rule = found(shelf.kept_rules, name).barring(word)
    return with_rules(shelf, {**shelf.kept_rules, name: rule})


def free_word(shelf, name, word):
    rule = found(shelf.kept_rules, name).freeing(word)
    return with_rules(shelf, {**shelf.kept_rules, name: rule})


def bound_rule(shelf, name, low, high, span):
    rule = found(shelf.kept_rules, name).bounded(low, high, span)
    return with_rules(shelf, {**shelf.kept_rules, name: rule})


def forget_rule(shelf, name):
    found(shelf.kept_rules, name)
    return with_rules(shelf, without(shelf.kept_rules, name))


def make_table(shelf, name, rule, p, q, most):
    check_new(shelf.kept_tables, name)
    table = Table(found(shelf.kept_rules, rule), p, q, most)
    check_room(shelf.kept_tables, MOST_TABLES)
    return with_tables(shelf, {**shelf.kept_tables, name: table})


def drop_table(shelf, name):
    found(shelf.kept_tables, name)
    if any([line.table_name == name for line in list(shelf.kept_lines.values())]):
        raise Held("a line has the table")
    return with_tables(shelf, without(shelf.kept_tables, name))


def begin_line(shelf, name, table):
    check_new(shelf.kept_lines, name)
    line = Line(table, found(shelf.kept_tables, table), "", "", "", START, False)
    check_room(shelf.kept_lines, MOST_LINES)
    return with_lines(shelf, {**shelf.kept_lines, name: line})


def write_line(shelf, name, message):
    line = written_on(found(shelf.kept_lines, name), message)
    if len(line.signs) > LONGEST_LINE:
        raise TooLong(f"the row would have {len(line.signs)} signs")
    return with_lines(shelf, {**shelf.kept_lines, name: line})


def turn_sign(shelf, name, at):
    line = found(shelf.kept_lines, name)
    if not 0 <= at < len(line.signs) or line.signs[at] == LOST:
        raise NoSign(f"no sign can be turned at the place {at}")
    return with_lines(shelf, {**shelf.kept_lines, name: turned(line, at)})


def wipe_signs(shelf, name, at, many):
    line = found(shelf.kept_lines, name)
    if at < 0 or many < 1 or at + many > len(line.signs):
        raise NoSign(f"no {many} signs stand from the place {at} on")
    return with_lines(shelf, {**shelf.kept_lines, name: wiped(line, at, many)})


def cut_blocks(shelf, name, many):
    line = found(shelf.kept_lines, name)
    if not 1 <= many <= len(line.signs) // line.coder.pace()[1]:
        raise NoSign(f"no {many} blocks stand there")
    return with_lines(shelf, {**shelf.kept_lines, name: cut_down(line, many)})


def burn_line(shelf, name):
    found(shelf.kept_lines, name)
    return with_lines(shelf, without(shelf.kept_lines, name))


ACTIONS = {
    "rule": add_rule, "bar": bar_word, "free": free_word, "bound": bound_rule, "forget": forget_rule,
    "table": make_table, "drop": drop_table, "line": begin_line, "write": write_line, "turn": turn_sign,
    "wipe": wipe_signs, "cut": cut_blocks, "burn": burn_line,
}


def tidy_deed(deed):
    """The deed with its words, if it has some, as a tuple."""
    if deed[0] != "rule":
        return deed
    words = () if deed[2] is None else tuple(deed[2])
    return deed[:2] + (words,) + deed[3:]


def shelf_behind(shelf, deed):
    """The shelf as it is behind the deed."""
    action = ACTIONS[deed[0]]
    things = deed[1:]
    return action(shelf, *things)
