"""A desk that answers lines about a loft."""

from pulsewright.counts import how_many, parting, row_at
from pulsewright.errors import (
    Absent, BadCount, BadLength, BadName, BadNumber, BadPace, BadRule, BadText, Endless, Full, Held, NoSign, NoTable,
    NothingLeft, Taken, TooLong, TooWide)
from pulsewright.loft import Loft
from pulsewright.notes import NONE, deed_text, read_deed, read_things, row_text, rule_text
from pulsewright.rules import number_text
from pulsewright.webs import web
from pulsewright.weights import paces
from pulsewright.windows import ahead, memory

MOST_AT_A_DESK = 8


def several(texts):
    """Several things as they are answered."""
    return " ".join(texts) if texts else NONE


def tell_rule(loft, name):
    return rule_text(loft.rule_of(name))


def tell_web(loft, name):
    return number_text(len(web(loft.rule_of(name))))


def tell_many(loft, name, signs):
    return number_text(how_many(loft.rule_of(name), signs))


def tell_row(loft, name, signs, number):
    return row_text(row_at(loft.rule_of(name), signs, number))


def tell_parts(loft, name, other):
    row = parting(loft.rule_of(name), loft.rule_of(other))
    return NONE if row is None else row_text(row)


def tell_memory(loft, name):
    return number_text(memory(loft.rule_of(name)))


def tell_paces(loft, name):
    return several([f"{p}:{q}" for p, q in paces(loft.rule_of(name), MOST_AT_A_DESK)])


def tell_pairs(loft, name):
    return number_text(len(loft.table_of(name)))


def tell_ahead(loft, name):
    return number_text(ahead(loft.table_of(name)))


def tell_weights(loft, name):
    return several([number_text(weight) for weight in loft.table_of(name).weights()])


def tell_tape(loft, name):
    return row_text(loft.tape(name))


def tell_told(loft, name):
    return row_text(loft.told(name))


def tell_read(loft, name):
    return several([NONE if signs is None else signs for signs in loft.read(name)])


def tell_spoilt(loft, name):
    return several([number_text(block) for block in loft.spoilt(name)])


def tell_undo(loft):
    return deed_text(loft.undo())


def tell_redo(loft):
    return deed_text(loft.redo())


FORMS = {
    "undo": (), "redo": (),
    "rule": ("name",), "web": ("name",), "many": ("name", "number"), "row": ("name", "number", "number"),
    "parts": ("name", "name"), "memory": ("name",), "paces": ("name",),
    "pairs": ("name",), "ahead": ("name",), "weights": ("name",),
    "tape": ("name",), "told": ("name",), "read": ("name",), "spoilt": ("name",),
}
ANSWERS = {
    "undo": tell_undo, "redo": tell_redo,
    "rule": tell_rule, "web": tell_web, "many": tell_many, "row": tell_row, "parts": tell_parts,
    "memory": tell_memory, "paces": tell_paces, "pairs": tell_pairs, "ahead": tell_ahead, "weights": tell_weights,
    "tape": tell_tape, "told": tell_told, "read": tell_read, "spoilt": tell_spoilt,
}


def answered(loft, line):
    """What is answered to a line that is not refused; BadText where it is of no form."""
    word, *texts = line.split(" ")
    # A rule is asked for and told by the same word, so the count of things decides.
    if word in FORMS and len(texts) == len(FORMS[word]):
        answer = ANSWERS[word]
        things = read_things(FORMS[word], texts)
        return answer(loft, *things)
    loft.do(read_deed(line))
    return "done"


def answered_by_rules(loft, line):
    """What is answered, also where a rule, a table or a text is refused."""
    try:
        return answered(loft, line)
    except BadText:
        return "what"
    except BadRule:
        return "no badrule"
    except BadPace:
        return "no badpace"
    except BadCount:
        return "no badcount"
    except BadNumber:
        return "no badnumber"
    except TooWide:
        return "no toowide"
    except BadLength:
        return "no badlength"
    except NoTable:
        return "no notable"
    except Endless:
        return "no endless"
    except BadName:
        return "no badname"


class Desk:
    """A loft, and answers to lines about it."""

    def __init__(self, loft=None):
        # A loft without lines is no truth, so it is None that has to be asked for.
        self.own_loft = Loft() if loft is None else loft

    def loft(self):
        """The loft of the desk."""
        return self.own_loft

    def say(self, line):
        """The answer to a line."""
        try:
            return answered_by_rules(self.own_loft, line)
        except Absent:
            return "no absent"
        except Taken:
            return "no taken"
        except Full:
            return "no full"
        except Held:
            return "no held"
        except TooLong:
            return "no toolong"
        except NoSign:
            return "no nosign"
        except NothingLeft:
            return "no nothingleft"
