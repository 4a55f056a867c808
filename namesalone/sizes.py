"""SIZES: boxes that fit some places alone, and the RINGS that a hole lets open."""

from namesalone.errors import NoName, NoPlan
from namesalone.fewest import chain_moves, ring_moves, ways_to_room
from namesalone.jobs import boxes, goals_of, places_of, rings
from namesalone.moves import boxes_moved, is_plan
from namesalone.plain import is_number, is_pair


def is_sizes(job, thing):
    """Tell whether thing is SIZES of the JOB."""
    if not is_pair(thing) or not _are_numbers_of(places_of(job), thing[0]):
        return False
    if not _are_numbers_of(boxes(job), thing[1]):
        return False
    wide, thick = _wide_and_thick(thing)
    for box, end in goals_of(job).items():
        if thick[box] > wide[box] or end is not None and thick[box] > wide[end]:
            return False
    return True


def _are_numbers_of(names, thing):
    """Tell whether thing is a tuple of the pairs of each of the names, in their order, and a number from 0."""
    if not isinstance(thing, tuple) or not all([is_pair(pair) for pair in thing]):
        return False
    if tuple([pair[0] for pair in thing]) != names:
        return False
    return all([is_number(pair[1]) and pair[1] >= 0 for pair in thing])


def _wide_and_thick(sizes):
    """Return a dict of the numbers of the places, and one of those of the boxes."""
    return dict(sizes[0]), dict(sizes[1])


def fits(job, sizes, box, place):
    """Tell whether the box fits the place."""
    if box not in boxes(job):
        raise NoName(box)
    if place not in places_of(job):
        raise NoName(place)
    wide, thick = _wide_and_thick(sizes)
    return thick[box] <= wide[place]


def hole_of(job, sizes):
    """Return the greatest number of a place that needs no RING to be free, None if there is none."""
    wide, _ = _wide_and_thick(sizes)
    return max([wide[place] for place, _ in ways_to_room(job)], default=None)


def opening(job, sizes):
    """Return the pairs of each RING that opens, the least one always first, and the hole behind it."""
    return _opened_from(job, sizes, hole_of(job, sizes))


def _opened_from(job, sizes, hole):
    """Return the same, the hole at first being told."""
    wide, thick = _wide_and_thick(sizes)
    found, left = [], list(rings(job))
    at = _first_to_open(left, thick, hole)
    while at is not None:
        ring = left.pop(at)
        hole = max(hole, max([wide[place] for place in ring]))
        found.append((ring, hole))
        at = _first_to_open(left, thick, hole)
    return tuple(found)


def _first_to_open(some, thick, hole):
    """Return the index of the first one of some RINGS that opens at the hole, None if none does."""
    for at, ring in enumerate(some):
        if hole is not None and _opens_at(ring, thick) <= hole:
            return at
    return None


def _opens_at(ring, thick):
    """Return the least number at which the RING opens."""
    return min([thick[box] for box in ring])


def shut_rings(job, sizes):
    """Return the set of the RINGS that are not open at last."""
    opened = [ring for ring, _ in opening(job, sizes)]
    return tuple([ring for ring in rings(job) if ring not in opened])


def can_be_done_by(job, sizes):
    """Tell whether there is a PLAN by sizes with no more MOVES than the fewest."""
    return not shut_rings(job, sizes)


def a_plan_by_sizes(job, sizes):
    """Return a PLAN by sizes with no more MOVES than the fewest."""
    if not can_be_done_by(job, sizes):
        raise NoPlan()
    if not rings(job):
        return tuple(chain_moves(job))
    wide, _ = _wide_and_thick(sizes)
    aside, away = max(ways_to_room(job), key=lambda way: wide[way[0]])
    plan, behind = list(away), []
    # aside is always the place of the hole: a RING with a wider one stays open there until the end.
    for ring, _ in opening(job, sizes):
        moves, later, aside = _opened_at(ring, sizes, aside)
        plan, behind = plan + moves, later + behind
    rest = [move for move in chain_moves(job) if move not in away]
    return tuple(plan + behind + rest)


def _opened_at(ring, sizes, aside):
    """Return the MOVES of the RING until its widest place is free, the rest of them, and the place then free.

    A RING that has no place wider than aside is made whole.
    """
    wide, thick = _wide_and_thick(sizes)
    at = ring.index(min(ring, key=lambda box: thick[box]))
    moves = ring_moves(ring[at:] + ring[:at], aside)
    widest = max(ring, key=lambda place: wide[place])
    if wide[widest] <= wide[aside]:
        return moves, [], aside
    made = [place for place, _ in moves].index(widest) + 1
    return moves[:made], moves[made:], widest


def is_plan_by_sizes(job, sizes, thing):
    """Tell whether thing is a PLAN by sizes, of however many MOVES."""
    if not is_plan(job, thing):
        return False
    for box, move in zip(boxes_moved(job, thing), thing):
        if move[1] is not None and not fits(job, sizes, box, move[1]):
            return False
    return True


def place_needed(job, sizes):
    """Return how great one more free place must be, at the least, for such a PLAN, 0 if there is one."""
    if can_be_done_by(job, sizes):
        return 0
    _, thick = _wide_and_thick(sizes)
    # A greater hole helps only where it is enough for one RING more.
    enough = [_opens_at(ring, thick) for ring in rings(job)]
    return min([number for number in enough if _opens_all(job, sizes, number)])


def _opens_all(job, sizes, number):
    """Tell whether all RINGS open with one more free place of this number."""
    hole = hole_of(job, sizes)
    opened = _opened_from(job, sizes, number if hole is None else max(hole, number))
    return len(opened) == len(rings(job))
