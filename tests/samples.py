"""Rules to go through, and those that stand at an edge."""

import itertools
import random

from pulsewright.rules import Rule

FREE = Rule()
NO_TWO = Rule(["11"])
GAPS = Rule(low=1, high=3)
SWINGING = Rule(span=1)
NONE_LASTS = [
    Rule(["0", "1"]), Rule(["1"], high=3), Rule(["00", "01", "10", "11"]), Rule(["01", "10"], high=1, span=4),
    Rule(low=2, span=1), Rule(["1"], span=4), Rule(["0"], low=1), Rule(["00011", "00100", "00110", "0101", "0110",
                                                                       "10111"], high=7, span=4),
]
JUST_FORTY = [
    Rule(["10100"], high=3, span=4), Rule(["01001"], high=7, span=4), Rule(["00111", "1000"], span=4),
    Rule(["01101", "1010", "1101"], high=5, span=4),
]
WIDE = [
    (Rule(["00011", "10010"], high=7, span=4), 41), (Rule(["01110", "11000"], high=4, span=4), 41),
    (Rule(["10110"], high=3, span=4), 42), (Rule(["00010", "01000", "01101", "10111"], high=5, span=4), 72),
]
WIDE_RULE = WIDE[0][0]
WIDER_RULE = WIDE[3][0]

WORDS = ([], ["11"], ["00", "01"], ["010", "11"], ["101", "0110"], ["1"], ["0"], ["0000", "1001", "11011"])
SMALL = [Rule(words, low, high, span)
         for words, low, high, span in itertools.product(WORDS, (0, 1, 2), (None, 1, 2, 3), (None, 1, 2, 3))
         if high is None or high >= low]


def chance_rules(many, seed):
    """So many rules, the same ones for the same seed."""
    chance = random.Random(seed)
    told = []
    while len(told) < many:
        words = {"".join(chance.choice("01") for _ in range(chance.choice((2, 3, 4, 5, 5))))
                 for _ in range(chance.randrange(7))}
        low = chance.choice((0, 0, 0, 1, 2, 3))
        high = chance.choice((None, None, 3, 4, 5, 6, 7))
        told.append(Rule(sorted(words), low, high, chance.choice((None, None, 2, 3, 4, 4))))
    return told
