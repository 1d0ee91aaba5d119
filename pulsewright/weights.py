"""Paces, steps, and weights that show which paces are good."""

from pulsewright.errors import BadPace, BadWeights
from pulsewright.webs import gathered, web

GREATEST_P = 3
GREATEST_Q = 4
GREATEST_MOST = 12


def check_part(part, number, greatest):
    """BadPace where a part of a pace isn't from 1 to the greatest."""
    if not 1 <= number <= greatest:
        raise BadPace(part)


def check_p(p):
    check_part("p", p, GREATEST_P)


def check_q(q):
    check_part("q", q, GREATEST_Q)


def check_most(most):
    check_part("most", most, GREATEST_MOST)


def check_pace(p, q, most):
    """BadPace of the first part that no pace has."""
    check_p(p)
    check_q(q)
    check_most(most)


def check_weights(stands, given):
    """BadWeights where these are no weights of the stands."""
    if len(given) != len(stands) or any([weight < 0 for weight in given]):
        raise BadWeights(f"no weights, 0 or more each, for {len(stands)} stands")


def steps_from(stands, stand, q):
    """The rows of q signs that can be gone from a stand, in their order, each with its goal."""
    gone = [("", stand)]
    for turn in range(q):
        gone = [(row + sign, goal) for row, here in gone for sign, goal in zip("01", stands[here])
                if goal is not None]
    return gone


def steps(rule, q):
    """For each stand its steps."""
    check_q(q)
    stands = web(rule)
    return [steps_from(stands, stand, q) for stand in range(len(stands))]


def borne(stands, q, given):
    """What each stand bears."""
    told = list(given)
    # A step of q signs is q steps of one sign, so the sums are gathered sign by sign.
    for turn in range(q):
        told = gathered(stands, told)
    return told


def bounds(stands, p, q, given):
    """For each stand the greatest weight that what it bears is enough for."""
    return [much // (1 << p) for much in borne(stands, q, given)]


def bears(rule, q, given):
    """What each stand bears by these weights."""
    check_q(q)
    stands = web(rule)
    check_weights(stands, given)
    return borne(stands, q, given)


def fit(rule, p, q, given):
    """Whether each stand bears at least 2 ** p times its own weight."""
    check_p(p)
    check_q(q)
    stands = web(rule)
    check_weights(stands, given)
    return all([weight <= bound for weight, bound in zip(given, bounds(stands, p, q, given))])


def lowered(stands, p, q, most):
    """The greatest weights, and lowerings that leave them."""
    left = [most] * len(stands)
    down = []
    while True:
        limits = bounds(stands, p, q, left)
        # Those that come later in a round find lesser weights already, so their limits are still high enough.
        more = [(stand, limit) for stand, limit in enumerate(limits) if limit < left[stand]]
        if not more:
            return left, down
        down.extend(more)
        left = [min(weight, limit) for weight, limit in zip(left, limits)]


def weights(rule, p, q, most=8):
    """The greatest weights up to most that fit."""
    check_pace(p, q, most)
    return lowered(web(rule), p, q, most)[0]


def lowerings(rule, p, q, most=8):
    """Lowerings that leave just the greatest weights."""
    check_pace(p, q, most)
    return lowered(web(rule), p, q, most)[1]


def is_lowering(stands, p, q, left, stand, weight):
    """Whether the stand's weight may be lowered to this one, where these are left."""
    if not 0 <= stand < len(stands):
        return False
    return bounds(stands, p, q, left)[stand] <= weight < left[stand]


def left_by(rule, p, q, most, steps_down):
    """The weights that lowerings leave, None where one of them is none."""
    check_pace(p, q, most)
    stands = web(rule)
    left = [most] * len(stands)
    for stand, weight in steps_down:
        if not is_lowering(stands, p, q, left, stand, weight):
            return None
        left[stand] = weight
    return left


def is_good(stands, p, q, most):
    """Whether the greatest weights are not all nought."""
    return any([weight > 0 for weight in lowered(stands, p, q, most)[0]])


def least_most(rule, p, q):
    """The least most with which the pace is good, None where there is none."""
    check_p(p)
    check_q(q)
    stands = web(rule)
    for most in range(1, GREATEST_MOST + 1):
        if is_good(stands, p, q, most):
            return most
    return None


def paces(rule, most=8):
    """The good paces, rising."""
    check_most(most)
    stands = web(rule)
    return [(p, q) for p in range(1, GREATEST_P + 1) for q in range(1, GREATEST_Q + 1)
            if is_good(stands, p, q, most)]
