"""How many lasting rows there are, their numbers, and the rows that part two rules."""

from pulsewright.errors import BadCount, BadNumber
from pulsewright.rows import check_row
from pulsewright.webs import all_along, gathered, web

MOST_SIGNS = 60


def check_count(signs):
    """BadCount where rows of so many signs aren't numbered."""
    if not 0 <= signs <= MOST_SIGNS:
        raise BadCount(f"rows of {signs} signs are not numbered")


def tails(stands, signs):
    """For each count up to signs, how many rows of so many signs can be gone from each stand."""
    told = [[1] * len(stands)]
    for shorter in range(signs):
        told.append(gathered(stands, told[shorter]))
    return told


def how_many(rule, signs):
    """How many lasting rows of so many signs there are."""
    check_count(signs)
    stands = web(rule)
    return tails(stands, signs)[signs][0] if stands else 0


def row_at(rule, signs, number):
    """The lasting row of so many signs that has the number."""
    check_count(signs)
    stands = web(rule)
    behind = tails(stands, signs)
    if not stands or not 0 <= number < behind[signs][0]:
        raise BadNumber(f"no lasting row of {signs} signs has the number {number}")
    row = ""
    stand = 0
    left = number
    for rest in reversed(range(signs)):
        zero, one = stands[stand]
        under_zero = 0 if zero is None else behind[rest][zero]
        if left < under_zero:
            row += "0"
            stand = zero
        else:
            row += "1"
            stand = one
            left -= under_zero
    return row


def number_of(rule, row):
    """The number of a lasting row among those of as many signs."""
    check_row(row)
    check_count(len(row))
    stands = web(rule)
    passed = all_along(stands, row)
    behind = tails(stands, len(row))
    number = 0
    for at, sign in enumerate(row):
        zero = stands[passed[at]][0]
        if sign == "1" and zero is not None:
            number += behind[len(row) - at - 1][zero]
    return number


def parting(one, other):
    """The first row that is lasting by the one and not by the other one, None where there is none."""
    stands = web(one)
    others = web(other)
    if not stands or not others:
        return "" if stands else None
    rows = {(0, 0): ""}
    reached = [(0, 0)]
    done = 0
    # Shorter rows are gone ahead of longer ones, and a 0 ahead of a 1: the first that parts is the first of all.
    while done < len(reached):
        here, there = reached[done]
        for sign, goal, other_goal in zip("01", stands[here], others[there]):
            row = rows[(here, there)] + sign
            if goal is not None and other_goal is None:
                return row
            if goal is not None and (goal, other_goal) not in rows:
                rows[(goal, other_goal)] = row
                reached.append((goal, other_goal))
        done += 1
    return None


def alike(one, other):
    """Whether the same rows are lasting by both."""
    # A web tells no more and no less than the lasting rows.
    return web(one) == web(other)
