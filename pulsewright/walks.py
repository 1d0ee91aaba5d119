"""Walks from place to place that all end, or one that goes on for ever.

Ways are a dict: for each place a list of pairs, a label and the place to which it leads.
"""


def longest_lengths(ways):
    """How long the longest walk from each place is, for those from which none goes on for ever."""
    into = {place: [] for place in ways}
    unknown = {place: len(ways[place]) for place in ways}
    for place in ways:
        for label, goal in ways[place]:
            into[goal].append(place)
    known = [place for place in ways if not ways[place]]
    lengths = {}
    while len(lengths) < len(known):
        place = known[len(lengths)]
        lengths[place] = max([lengths[goal] + 1 for label, goal in ways[place]], default=0)
        for before in into[place]:
            unknown[before] -= 1
            if unknown[before] == 0:
                known.append(before)
    return lengths


def longest(ways):
    """How long the longest walk is, None where one goes on for ever; there is at least one place."""
    lengths = longest_lengths(ways)
    return max(list(lengths.values())) if len(lengths) == len(ways) else None


def ending_walk(ways, lengths):
    """The beginning of a longest walk, and its labels."""
    start = max(list(lengths), key=lambda place: lengths[place])
    labels = []
    here = start
    while ways[here]:
        label, here = max(ways[here], key=lambda way: lengths[way[1]])
        labels.append(label)
    return start, labels


def endless_walk(ways, lengths):
    """The beginning of a walk without end, its labels up to a round, and those of the round."""
    start = [place for place in ways if place not in lengths][0]
    labels = []
    passed = {}
    here = start
    while here not in passed:
        passed[here] = len(labels)
        label, here = [way for way in ways[here] if way[1] not in lengths][0]
        labels.append(label)
    return start, labels[:passed[here]], labels[passed[here]:]


def longest_walk(ways):
    """The beginning of a longest walk, its labels, and the labels of the round in which it ends, or None."""
    lengths = longest_lengths(ways)
    if len(lengths) < len(ways):
        return endless_walk(ways, lengths)
    start, labels = ending_walk(ways, lengths)
    return start, labels, None
