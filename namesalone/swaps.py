"""STEPS: MOVES, and exchanges of the boxes at two places in one."""

from namesalone.errors import Impossible
from namesalone.fewest import a_plan, can_be_done, fewest_moves
from namesalone.jobs import boxes, rings, staying
from namesalone.kinds import sight_by
from namesalone.moves import after, first_stand, is_end, left_job, possible, sight_of
from namesalone.plain import is_name_pair, is_way

SWAP = "swap"


def _is_step(thing):
    """Tell whether thing is a MOVE, or an exchange of places in whichever order."""
    if not isinstance(thing, tuple) or len(thing) != 3:
        return is_way(thing)
    return thing[0] == SWAP and is_name_pair(thing[1:])


def _allows(job, stand, step):
    """Tell whether the STEP is possible in the STAND."""
    if len(step) == 2:
        return possible(job, stand, step)
    _, place, other = step
    full = sight_of(stand)
    return place < other and place in full and other in full


def step_after(job, stand, step):
    """Return the STAND behind the STEP."""
    if not _allows(job, stand, step):
        raise Impossible(step)
    if len(step) == 2:
        return after(job, stand, step)
    _, place, other = step
    there = {place: other, other: place}
    return tuple(sorted([(there.get(at, at), box) for at, box in stand]))


def _stands_along(job, steps):
    """Return the list of the STANDS ahead of all STEPS and behind each one."""
    stands = [first_stand(job)]
    for step in steps:
        stands.append(step_after(job, stands[-1], step))
    return stands


def are_steps(job, thing):
    """Tell whether thing is STEPS of the JOB, however many."""
    if not isinstance(thing, tuple) or not all([_is_step(step) for step in thing]):
        return False
    try:
        return is_end(job, _stands_along(job, thing)[-1])
    except Impossible:
        return False


def how_many_swaps(steps):
    """Return how many of the STEPS are exchanges."""
    return len([step for step in steps if len(step) == 3])


def fewest_steps(job):
    """Return how many the fewest STEPS are."""
    return len(boxes(job)) - len(staying(job)) - len(rings(job))


def a_few_steps(job):
    """Return as few STEPS as can be."""
    return _steps_by(job, rings(job))


def _steps_by(job, swapped):
    """Return STEPS that make these RINGS by exchanges alone, and all else by as few MOVES as can be."""
    # An exchange with the place of the first box brings the box that is there home, until all are.
    steps = tuple([(SWAP, ring[0], place) for ring in swapped for place in ring[1:]])
    return steps + a_plan(left_job(job, _stands_along(job, steps)[-1]))


def are_fewest_steps(job, thing):
    """Tell whether thing is STEPS of the JOB, as few as can be."""
    return are_steps(job, thing) and len(thing) == fewest_steps(job)


def _swapped_with(job, many):
    """List as many RINGS as can be made by at most so many exchanges, those of the fewest boxes first."""
    found, left = [], many
    for ring in sorted(rings(job), key=len):
        left -= len(ring) - 1
        if left >= 0:
            found.append(ring)
    return found


def fewest_steps_with(job, many):
    """Return how many the fewest STEPS with at most so many exchanges are, None if there are none."""
    swapped = _swapped_with(job, many)
    if can_be_done(job):
        return fewest_moves(job) - 2 * len(swapped)
    # No MOVE is ever possible here, so that each RING must be made by exchanges.
    return fewest_steps(job) if len(swapped) == len(rings(job)) else None


def some_steps_with(job, many):
    """Return STEPS, as few as can be with at most so many exchanges."""
    # Where no MOVE is ever possible, there is a PLAN for the rest only if no RING is left.
    return _steps_by(job, _swapped_with(job, many))


def swaps_for(job, number):
    """Return how few exchanges are in STEPS of at most this number, None if there are none."""
    # More exchanges help only where they are enough for one RING more.
    many = 0
    for size in [1] + sorted([len(ring) for ring in rings(job)]):
        many += size - 1
        least = fewest_steps_with(job, many)
        if least is not None and least <= number:
            return many
    return None


def _blind(job, steps, show):
    """Return the set of the numbers of the STEPS behind which show shows the same as ahead of them."""
    shown = [show(stand) for stand in _stands_along(job, steps)]
    return tuple([number for number in range(len(shown) - 1) if shown[number] == shown[number + 1]])


def blind_steps(job, steps):
    """Return the set of the numbers of the STEPS behind which the SIGHT is as ahead of them."""
    return _blind(job, steps, sight_of)


def blind_steps_by(job, kinds, steps):
    """Return the set of the numbers of the STEPS behind which the SIGHT BY KINDS is as ahead of them."""
    return _blind(job, steps, lambda stand: sight_by(kinds, stand))
