"""Lofts to go through, and all that can be asked of one."""

import random

from pulsewright.errors import LoftError, PulseError
from pulsewright.loft import Loft


def small_loft():
    """Two rules, two tables, and two lines; the table `deep` doesn't slide."""
    loft = Loft()
    loft.rule("two", ["11"])
    loft.rule("gap", low=1, high=3)
    loft.table("plain", "two", 1, 2, 1)
    loft.table("deep", "two", 2, 3, 2)
    loft.line("one", "plain")
    loft.line("far", "deep")
    return loft


def asked(question, *given):
    """What is told, or the class of the refusal."""
    try:
        return question(*given)
    except (PulseError, LoftError) as refused:
        return refused.__class__


def whole(loft):
    """All that a loft tells."""
    told = [loft.deeds(), loft.undone(), loft.rules(), loft.tables(), loft.lines(), len(loft), repr(loft)]
    for name in loft.rules():
        told.append((name, loft.rule_of(name)))
    for name in loft.tables():
        table = loft.table_of(name)
        told.append((name, table, table.rule(), table.weights()))
    for name in loft.lines():
        questions = (loft.tape, loft.told, loft.pair, loft.late, loft.used, loft.faults, loft.spoilt, loft.read)
        told.append((name, [asked(question, name) for question in questions]))
    return told


def redone(loft):
    """A new loft in which the deeds that stand in this one were done."""
    other = Loft()
    for deed in loft.deeds():
        other.do(deed)
    return other


def chance_deed(chance):
    """A deed that a loft may or may not do."""
    def name():
        return chance.choice(("a", "b", "a", "b", "a", "b", "a", "b", "c", "abcdefgh", "Z", "", "abcdefghi"))

    def word():
        return chance.choice(("11", "00", "101", "0", "10", "", "012", "000000"))

    def bits():
        return "".join(chance.choice("01") for _ in range(chance.choice((0, 2, 4, 6, 6, 12, 5))))

    kind = chance.choice(("rule", "rule", "bar", "free", "bound", "forget", "table", "table", "drop", "line", "line",
                          "write", "write", "write", "turn", "turn", "wipe", "cut", "burn"))
    low, high, span = chance.choice(((0, None, None), (1, 3, None), (0, 7, None), (0, None, 3), (4, 1, 1), (2, 1, 9)))
    return {
        "rule": lambda: (kind, name(), tuple(word() for _ in range(chance.choice((0, 0, 1, 2)))), low, high, span),
        "bar": lambda: (kind, name(), word()), "free": lambda: (kind, name(), word()),
        "bound": lambda: (kind, name(), low, high, span), "forget": lambda: (kind, name()),
        "table": lambda: (kind, name(), name(), chance.choice((1, 1, 1, 2, 4)), chance.choice((2, 2, 3, 4, 0)),
                          chance.choice((1, 2, 8))),
        "drop": lambda: (kind, name()), "line": lambda: (kind, name(), name()),
        "write": lambda: (kind, name(), bits()), "turn": lambda: (kind, name(), chance.randrange(-1, 20)),
        "wipe": lambda: (kind, name(), chance.randrange(-1, 20), chance.randrange(0, 4)),
        "cut": lambda: (kind, name(), chance.randrange(0, 4)), "burn": lambda: (kind, name()),
    }[kind]()


def chance_lofts(many, deeds, seed):
    """Lofts in which deeds were tried, taken back and done again."""
    chance = random.Random(seed)
    for _ in range(many):
        loft = Loft()
        for name, low in (("a", 0), ("b", 1)):
            loft.rule(name, ["11"], low)
            loft.table(name, name, 1, 2, 1)
            loft.line(name, name)
        for _ in range(deeds):
            turn = chance.randrange(10)
            if turn < 8:
                asked(loft.do, chance_deed(chance))
            else:
                asked(loft.undo if turn == 8 else loft.redo)
        yield loft
