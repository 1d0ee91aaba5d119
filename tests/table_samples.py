"""Tables to go through, and rules and paces that make none."""

import itertools

from pulsewright.errors import NoTable, TooWide
from pulsewright.rules import Rule
from pulsewright.tables import Table
from samples import FREE, GAPS, JUST_FORTY, NO_TWO, SMALL, SWINGING, chance_rules

PACES = list(itertools.product((1, 2, 3), (1, 2, 3, 4)))
BOUNDED = Rule(low=1, high=7)

# A rule, p, q and most: memory and what is looked ahead are nought, above nought and None.
MADE = [
    (FREE, 1, 1, 8), (FREE, 1, 1, 1), (FREE, 3, 3, 2), (FREE, 1, 2, 3), (NO_TWO, 1, 2, 8), (NO_TWO, 1, 2, 1),
    (NO_TWO, 2, 3, 2), (NO_TWO, 2, 3, 8), (NO_TWO, 2, 3, 12), (GAPS, 1, 2, 8), (GAPS, 1, 2, 1), (GAPS, 1, 2, 2),
    (BOUNDED, 2, 3, 8), (BOUNDED, 1, 2, 4), (SWINGING, 1, 4, 8), (Rule(span=3), 1, 2, 8), (Rule(span=3), 1, 2, 1),
    (Rule(["01110", "101"], high=7), 3, 4, 12), (Rule(["111"], low=3), 1, 3, 12), (Rule(low=2, high=7), 1, 2, 4),
    (JUST_FORTY[0], 1, 2, 8), (JUST_FORTY[3], 2, 4, 12), (Rule(["01"]), 1, 2, 8), (Rule(["11"], high=2), 1, 2, 12),
]


def made_tables():
    """The tables that can be made of MADE, each with what it is made of."""
    told = []
    for made in MADE:
        try:
            told.append((made, Table(*made)))
        except NoTable:
            pass
    return told


def many_made(many, seed):
    """So many things of which tables can be made, of small rules and of rules by chance."""
    told = []
    for at, rule in enumerate(SMALL[seed % 5::5] + chance_rules(many, seed)):
        for turn in range(len(PACES)):
            p, q = PACES[turn]
            made = (rule, p, q, (1, 2, 3, 5, 8, 12)[(at + turn) % 6])
            if (at + turn) % 4:
                continue
            try:
                Table(*made)
            except (NoTable, TooWide):
                continue
            told.append(made)
    return told[::max(1, len(told) // many)][:many]
