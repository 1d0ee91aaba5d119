"""How far a reader must look back and ahead, and tables slid over rows."""

from pulsewright.blocks import blocks_of, check_length
from pulsewright.errors import BadRow, Endless
from pulsewright.walks import longest, longest_walk
from pulsewright.webs import along, web

LOST = "?"


def blurred_ways(stands):
    """For each two unlike stands the signs that lead from them to unlike stands, with these."""
    ways = {}
    for one in range(len(stands)):
        for other in range(len(stands)):
            if one != other:
                ways[(one, other)] = [
                    (sign, (goal, other_goal)) for sign, goal, other_goal in zip("01", stands[one], stands[other])
                    if goal is not None and other_goal is not None and goal != other_goal]
    return ways


def doubtful_ways(table):
    """For each two neighbouring shares (stand, lower one) the signs by which both write one block, and where to."""
    p = table.pace()[0]
    many = 1 << p
    ways = {}
    for stand, weight in enumerate(table.weights()):
        lots = table.lots(stand)
        for share in range(weight - 1):
            # The shares that can write the same blocks are neighbours, for the lots that go on so are. So two
            # neighbours are in doubt as long as any two are, and it is their neighbouring lots that stay so.
            row, goal, last = lots[share * many + many - 1]
            next_row = lots[share * many + many][0]
            ways[(stand, share)] = [(("1" * p, "0" * p), (goal, last))] if row == next_row else []
    return ways


def least_beyond(ways):
    """The least length that no walk has."""
    if not ways:
        return 0
    length = longest(ways)
    return None if length is None else length + 1


def memory_of(stands):
    """The memory of a rule that has this web."""
    return least_beyond(blurred_ways(stands))


def memory(rule):
    """How many signs tell the stand to which they lead, None where no number does."""
    return memory_of(web(rule))


def blur(rule):
    """Two stands that one sign less, or no number of signs, leads together; None where the memory is 0."""
    ways = blurred_ways(web(rule))
    if not ways:
        return None
    (one, other), signs, around = longest_walk(ways)
    row = "".join(signs)
    return (one, other, row) if around is None else (one, other, row, "".join(around))


def ahead(table):
    """How many blocks tell the share from which they are written, None where no number does."""
    return least_beyond(doubtful_ways(table))


def both_messages(labels):
    """The messages of the lower and the upper share."""
    return ("".join([lower for lower, upper in labels]), "".join([upper for lower, upper in labels]))


def doubt(table):
    """Two shares that one block less, or no number of blocks, tells apart; None where it looks ahead 0."""
    ways = doubtful_ways(table)
    if not ways:
        return None
    (stand, share), labels, around = longest_walk(ways)
    told = (stand, share, share + 1) + both_messages(labels)
    return told if around is None else told + both_messages(around)


def slides(table):
    """Whether the table slides."""
    return memory_of(table.ways) is not None and ahead(table) is not None


def sliding_reach(table):
    """The memory of the table's rule and what it looks ahead; Endless where it doesn't slide."""
    back, forth = memory_of(table.ways), ahead(table)
    if back is None or forth is None:
        raise Endless("no window is wide enough for this table")
    return back, forth


def check_tape(row):
    """BadRow where the text has a sign that neither a row has nor stands for a lost one."""
    for at, sign in enumerate(row):
        if sign != "0" and sign != "1" and sign != LOST:
            raise BadRow(at)


def told_block(table, before, blocks):
    """The signs that wrote the first of these blocks, behind these signs; None where they aren't told."""
    row = before + "".join(blocks)
    if LOST in row:
        return None
    # What can be gone from some stand can be gone from stand 0, and the memory makes it lead to the same stand.
    passed = along(table.ways, row)
    if len(passed) <= len(row):
        return None
    # A stand's first lots are the ones taken, so where any share has this written behind it the share 0 has; and
    # whichever share that is, the blocks behind the first one tell the same share of its goal.
    traced = table.traced(passed[len(before)::table.q_signs], blocks, 0)
    return None if traced is None else traced[1][0]


def slide(table, row, late=False):
    """For each block of a row the signs that wrote it, None where they aren't told."""
    check_tape(row)
    check_length(row, table.q_signs)
    back, forth = sliding_reach(table)
    blocks = blocks_of(row, table.q_signs)
    told = []
    for at in range(len(blocks)):
        start = at * table.q_signs
        if at + forth >= len(blocks) or (late and start < back):
            told.append(None)
        else:
            before = row[max(0, start - back):start]
            told.append(told_block(table, before, blocks[at:at + forth + 1]))
    return told
