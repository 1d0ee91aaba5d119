"""The web of a rule: its stands, and where a 0 and a 1 more lead from each."""

from pulsewright.errors import BadNumber, TooWide, Unlawful
from pulsewright.rows import check_row

MOST_STANDS = 40
DEAD_END = (None, None)


def beginnings(pieces):
    """All beginnings of the pieces that are shorter than these, the empty row too."""
    begun = {"": True}
    for piece in pieces:
        for signs in range(len(piece)):
            begun[piece[:signs]] = True
    return begun


def longest_end(row, begun):
    """The longest end of a row that begins a barred piece."""
    for start in range(len(row)):
        if row[start:] in begun:
            return row[start:]
    return ""


def swung(risen, fallen, sign, span):
    """How far the sum has risen from its lowest and fallen from its highest then, None beyond span."""
    if span is None:
        return (0, 0)
    if sign == "1":
        moved = (risen + 1, max(0, fallen - 1))
    else:
        moved = (max(0, risen - 1), fallen + 1)
    return moved if sum(moved) <= span else None


def trace_after(trace, sign, pieces, begun, span):
    """The trace of a row with a sign more, None where that isn't lawful."""
    end, risen, fallen = trace
    longer = end + sign
    moved = swung(risen, fallen, sign, span)
    if moved is None or any([longer.endswith(piece) for piece in pieces]):
        return None
    return (longest_end(longer, begun), moved[0], moved[1])


def numbered(start, onward):
    """Pairs of numbers for all that is reached from a start, numbered as it is first reached."""
    numbers = {start: 0}
    reached = [start]
    pairs = []
    while len(pairs) < len(reached):
        goals = onward(reached[len(pairs)])
        for goal in goals:
            if goal is not None and goal not in numbers:
                numbers[goal] = len(reached)
                reached.append(goal)
        pairs.append(tuple([None if goal is None else numbers[goal] for goal in goals]))
    return pairs


def lawful_pairs(rule):
    """A web of all lawful rows, in which like stands are not yet one."""
    pieces = rule.barred_pieces()
    begun = beginnings(pieces)
    span = rule.span()
    # What is lawful behind a row hangs on no more of it than this trace: the end
    # that begins a barred piece, and how far the sum has swung.
    return numbered(("", 0, 0), lambda trace: [
        trace_after(trace, sign, pieces, begun, span) for sign in "01"])


def without_dead_ends(pairs):
    """The pairs with None for each goal from which no row goes on without end."""
    kept = pairs
    while True:
        cut = [tuple([None if goal is None or kept[goal] == DEAD_END else goal for goal in pair])
               for pair in kept]
        if cut == kept:
            return kept
        kept = cut


def like_groups(pairs):
    """For each place the number of its group; just the same rows can be gone from all of a group."""
    groups = [0] * len(pairs)
    many = 1
    while True:
        names = {}
        finer = []
        for pair in pairs:
            told = tuple([None if goal is None else groups[goal] for goal in pair])
            finer.append(names.setdefault(told, len(names)))
        # Each round looks one sign farther; one that parts nothing more is the last.
        if len(names) == many:
            return finer
        groups = finer
        many = len(names)


def whole_web(rule):
    """The web, however wide it is."""
    pairs = without_dead_ends(lawful_pairs(rule))
    if pairs[0] == DEAD_END:
        return []
    groups = like_groups(pairs)
    merged = {}
    for group, pair in zip(groups, pairs):
        merged[group] = tuple([None if goal is None else groups[goal] for goal in pair])
    return numbered(groups[0], lambda group: merged[group])


def web(rule):
    """For each stand the pair of stands to which a 0 and a 1 more lead."""
    stands = whole_web(rule)
    if len(stands) > MOST_STANDS:
        raise TooWide(len(stands))
    return stands


def along(stands, row):
    """The stands to which the lasting beginnings of a row lead, from the empty one on."""
    if not stands:
        return []
    passed = [0]
    for sign in row:
        goal = stands[passed[-1]][int(sign)]
        if goal is None:
            return passed
        passed.append(goal)
    return passed


def all_along(stands, row):
    """The stands to which all beginnings of a lasting row lead; Unlawful of another one."""
    passed = along(stands, row)
    if len(passed) <= len(row):
        raise Unlawful(max(0, len(passed) - 1))
    return passed


def first_rows(stands):
    """The first row that leads to each stand."""
    rows = {0: ""}
    for stand, pair in enumerate(stands):
        for sign, goal in zip("01", pair):
            if goal is not None and goal not in rows:
                rows[goal] = rows[stand] + sign
    return rows


def lasting(rule, row):
    """Whether lawful rows that begin with the row are as long as one likes."""
    check_row(row)
    return len(along(web(rule), row)) > len(row)


def stand_of(rule, row):
    """The stand to which a row leads."""
    check_row(row)
    return all_along(web(rule), row)[-1]


def first_to(rule, stand):
    """The first row that leads to a stand."""
    stands = web(rule)
    if not 0 <= stand < len(stands):
        raise BadNumber(f"no stand has the number {stand}")
    return first_rows(stands)[stand]


def gathered(stands, worths):
    """For each stand the sum of what the stands are worth to which a sign more leads."""
    return [sum([worths[goal] for goal in pair if goal is not None]) for pair in stands]
