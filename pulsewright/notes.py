"""Rules, deeds and lofts written as texts, and read from them."""

from pulsewright.errors import BadRule, BadText, LoftError, PulseError
from pulsewright.loft import Loft
from pulsewright.rows import first_stranger
from pulsewright.rules import Rule, number_text, words_text

NONE = "-"
FIGURES = "0123456789"
MOST_FIGURES = 6
RULE_FORM = ("words", "number", "bound", "bound")
DEED_FORMS = {
    "rule": ("name", "words", "number", "bound", "bound"),
    "bar": ("name", "word"),
    "free": ("name", "word"),
    "bound": ("name", "number", "bound", "bound"),
    "forget": ("name",),
    "table": ("name", "name", "number", "number", "number"),
    "drop": ("name",),
    "line": ("name", "name"),
    "write": ("name", "row"),
    "turn": ("name", "number"),
    "wipe": ("name", "number", "number"),
    "cut": ("name", "number"),
    "burn": ("name",),
}


def read_name(text):
    if text == "" or "\n" in text:
        raise BadText(0)
    return text


def read_word(text):
    if text == "" or first_stranger(text) is not None:
        raise BadText(0)
    return text


def read_words(text):
    return () if text == NONE else tuple([read_word(word) for word in text.split("+")])


def read_row(text):
    return "" if text == NONE else read_word(text)


def read_number(text):
    if not 1 <= len(text) <= MOST_FIGURES or any([figure not in FIGURES for figure in text]):
        raise BadText(0)
    if text[0] == "0" and text != "0":
        raise BadText(0)
    return int(text)


def read_bound(text):
    return None if text == NONE else read_number(text)


READERS = {
    "name": read_name, "word": read_word, "words": read_words, "row": read_row, "number": read_number,
    "bound": read_bound,
}


def read_things(kinds, texts):
    """The things of these kinds that the texts write; BadText where they don't."""
    if len(kinds) != len(texts):
        raise BadText(0)
    things = []
    for kind, text in zip(kinds, texts):
        reader = READERS[kind]
        things.append(reader(text))
    return things


def row_text(row):
    """A row as it is written."""
    return row if row else NONE


def thing_text(kind, thing):
    """A thing of a deed as it is written."""
    if kind == "words":
        return words_text(thing)
    if kind == "row":
        return row_text(thing)
    return number_text(thing) if kind == "number" or kind == "bound" else thing


def rule_text(rule):
    """The rule, written."""
    return str(rule)


def read_rule(text):
    """The Rule that the text writes."""
    words, low, high, span = read_things(RULE_FORM, text.split(" "))
    if list(words) != sorted(words):
        raise BadText(0)
    try:
        return Rule(list(words), low, high, span)
    except BadRule:
        raise BadText(0) from None


def deed_text(deed):
    """The deed, written."""
    texts = [thing_text(kind, thing) for kind, thing in zip(DEED_FORMS[deed[0]], deed[1:])]
    return " ".join([deed[0]] + texts)


def read_deed(text):
    """The deed that the text writes."""
    word, *texts = text.split(" ")
    if word not in DEED_FORMS:
        raise BadText(0)
    return tuple([word] + read_things(DEED_FORMS[word], texts))


def page(loft):
    """A line for each deed that stands, a line feed behind each."""
    return "".join([deed_text(deed) + "\n" for deed in loft.deeds()])


def read_page(text):
    """A Loft in which the deeds of the page were done."""
    lines = text.split("\n")
    loft = Loft()
    for number, line in enumerate(lines[:-1]):
        try:
            loft.do(read_deed(line))
        except (PulseError, LoftError):
            raise BadText(number) from None
    # Behind the last line feed nothing may stand.
    if lines[-1] != "":
        raise BadText(len(lines) - 1)
    return loft
