"""Moments of PLANS that look alike, as the same places are full."""

from namesalone.errors import NoNumber
from namesalone.jobs import rings
from namesalone.moves import boxes_moved, sights
from namesalone.plain import as_tuples


def _check_moments(plan, moments):
    """Raise NoNumber for the first one of moments that is no moment of plan."""
    for moment in moments:
        if not 0 <= moment <= len(plan):
            raise NoNumber(moment)


def is_alike(job, plan, one, other):
    """Tell whether the moments one and other of the PLAN have the same SIGHT."""
    _check_moments(plan, (one, other))
    shown = sights(job, plan)
    return shown[one] == shown[other]


def alike_pairs(job, plan):
    """Return the ascending list of the pairs (one, other) of moments that are alike."""
    return equal_pairs(sights(job, plan))


def equal_pairs(shown):
    """Return the ascending list of the pairs of numbers of equal items of shown."""
    pairs = [(one, other) for one in range(len(shown)) for other in range(one + 1, len(shown))]
    return [(one, other) for one, other in pairs if shown[one] == shown[other]]


def is_readable(job, plan):
    """Tell whether no two moments of the PLAN are alike."""
    return how_many_sights(job, plan) == len(plan) + 1


def first_alike(job, plan):
    """Return the pair of moments that are alike with the least other, None if there are none."""
    return min(alike_pairs(job, plan), key=lambda pair: pair[1], default=None)


def moments_of(job, plan, sight):
    """Return the set of the moments that have this SIGHT."""
    wanted = as_tuples(sight)
    return tuple([moment for moment, shown in enumerate(sights(job, plan)) if shown == wanted])


def how_many_sights(job, plan):
    """Return how many unlike SIGHTS the moments of the PLAN have."""
    return len(set(sights(job, plan)))


def moves_of(job, plan, ring):
    """Return the set of the numbers of the MOVES that the boxes of the RING make."""
    return tuple([number for number, box in enumerate(boxes_moved(job, plan)) if box in ring])


def open_rings(job, plan, moment):
    """Return the set of the RINGS some but not all of whose MOVES are made at this moment."""
    _check_moments(plan, (moment,))
    found = []
    for ring in rings(job):
        made = [number < moment for number in moves_of(job, plan, ring)]
        if any(made) and not all(made):
            found.append(ring)
    return tuple(found)


def rings_between(job, plan, one, other):
    """Return the set of the RINGS made between these moments, None if the moments are not alike."""
    if not is_alike(job, plan, one, other):
        return None
    found = []
    for ring in rings(job):
        if all([one <= number < other for number in moves_of(job, plan, ring)]):
            found.append(ring)
    return tuple(found)


def first_whole(job, plan):
    """Return the first moments that are alike and the RINGS made between, None if there are none."""
    pair = first_alike(job, plan)
    if pair is None:
        return None
    one, other = pair
    return one, other, rings_between(job, plan, one, other)
