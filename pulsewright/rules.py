"""Rules that tell which rows are lawful."""

from pulsewright.errors import BadRule
from pulsewright.rows import check_row, first_stranger, swings_along

MOST_WORDS = 6
LONGEST_WORD = 5
GREATEST_LOW = 3
GREATEST_HIGH = 7
GREATEST_SPAN = 4


def is_word(text):
    """Whether a rule may bar this text."""
    return 1 <= len(text) <= LONGEST_WORD and first_stranger(text) is None


def are_words(texts):
    """Whether a rule may bar just these texts."""
    if len(texts) > MOST_WORDS or len(set(texts)) < len(texts):
        return False
    return all([is_word(text) for text in texts])


def check_parts(words, low, high, span):
    """BadRule of the first part that no rule has."""
    if not are_words(words):
        raise BadRule("words")
    if not 0 <= low <= GREATEST_LOW:
        raise BadRule("low")
    if high is not None and not max(1, low) <= high <= GREATEST_HIGH:
        raise BadRule("high")
    if span is not None and not 1 <= span <= GREATEST_SPAN:
        raise BadRule("span")


def end_of_first(row, piece):
    """How many signs the shortest beginning has that holds the piece, None where none does."""
    at = row.find(piece)
    return None if at < 0 else at + len(piece)


def end_beyond_span(row, span):
    """How many signs the shortest beginning has that swings beyond span, None where none does."""
    if span is None:
        return None
    for signs, width in enumerate(swings_along(row)):
        if width > span:
            return signs
    return None


def narrower(one, other):
    """The lesser of two bounds, None being no bound."""
    if one is None or other is None:
        return other if one is None else one
    return min(one, other)


def number_text(number):
    """A number, or None, as it is written."""
    return "-" if number is None else str(number)


def words_text(words):
    """Words as they are written, in the order in which they come."""
    return "+".join(words) if words else "-"


class Rule:
    """Barred words, the least and the most 0s between pulses, and the farthest swing."""

    def __init__(self, words=None, low=0, high=None, span=None):
        given = [] if words is None else words
        check_parts(given, low, high, span)
        self.barred = sorted(given)
        self.least_gap = low
        self.most_idle = high
        self.most_swing = span

    def words(self):
        """The barred words, rising as texts."""
        return list(self.barred)

    def low(self):
        """The least 0s between two 1s that have no 1 between them."""
        return self.least_gap

    def high(self):
        """The most 0s that stand together, or None."""
        return self.most_idle

    def span(self):
        """The greatest swing, or None."""
        return self.most_swing

    def barred_pieces(self):
        """All that the words, low and high let be no piece of a lawful row."""
        short_gaps = ["1" + "0" * many + "1" for many in range(self.least_gap)]
        long_idles = [] if self.most_idle is None else ["0" * (self.most_idle + 1)]
        return self.barred + short_gaps + long_idles

    def lets(self, row):
        """Whether the row is lawful."""
        return self.fault(row) is None

    def fault(self, row):
        """How many signs the shortest beginning has that isn't lawful, None where the row is."""
        check_row(row)
        ends = [end_of_first(row, piece) for piece in self.barred_pieces()]
        ends.append(end_beyond_span(row, self.most_swing))
        return min([end for end in ends if end is not None], default=None)

    def barring(self, word):
        """A Rule that bars one word more."""
        return Rule(self.barred + [word], self.least_gap, self.most_idle, self.most_swing)

    def freeing(self, word):
        """A Rule that bars a word no more."""
        if word not in self.barred:
            raise BadRule("words")
        words = [kept for kept in self.barred if kept != word]
        return Rule(words, self.least_gap, self.most_idle, self.most_swing)

    def bounded(self, low, high, span):
        """A Rule with the same words and these bounds."""
        return Rule(self.barred, low, high, span)

    def joined(self, other):
        """A Rule by which just those rows are lawful that are so by both."""
        words = self.barred + [word for word in other.words() if word not in self.barred]
        low = max(self.least_gap, other.low())
        high = narrower(self.most_idle, other.high())
        return Rule(words, low, high, narrower(self.most_swing, other.span()))

    def __eq__(self, other):
        return (isinstance(other, Rule) and self.barred == other.barred
                and self.least_gap == other.least_gap and self.most_idle == other.most_idle
                and self.most_swing == other.most_swing)

    def __str__(self):
        return " ".join([words_text(self.barred), number_text(self.least_gap),
                         number_text(self.most_idle), number_text(self.most_swing)])

    def __repr__(self):
        return f"Rule({self.barred!r}, low={self.least_gap}, high={self.most_idle}, span={self.most_swing})"
