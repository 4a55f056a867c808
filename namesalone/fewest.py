"""PLANS with as few MOVES as can be."""

from namesalone.errors import NoPlan
from namesalone.jobs import boxes, chains, free_places, goals_of, rings, staying, thrown
from namesalone.moves import after, boxes_moved, first_stand, is_plan, left_job


def can_be_done(job):
    """Tell whether there is a PLAN."""
    return not rings(job) or len(free_places(job)) > 0 or len(thrown(job)) > 0


def fewest_moves(job):
    """Return how many MOVES a fewest PLAN has."""
    if not can_be_done(job):
        raise NoPlan()
    return len(boxes(job)) - len(staying(job)) + len(rings(job))


def a_plan(job):
    """Return a fewest PLAN, readable if some PLAN is."""
    ahead, between, behind = plan_in_parts(job)
    return tuple(ahead + between + behind)


def plan_in_parts(job):
    """List in three parts the MOVES of a fewest PLAN, readable if some PLAN is.

    If there are RINGS, the first part opens all of them; if moreover some PLAN is readable, the second
    part is the one MOVE that shows, ever after, that this has been done.
    """
    if not can_be_done(job):
        raise NoPlan()
    if not rings(job):
        return [], [], chain_moves(job)
    if free_places(job):
        return _parts_around(job)
    # What is thrown away never comes back, so this MOVE makes no later moment look like the first.
    away = (thrown(job)[0], None)
    ahead, between, behind = plan_in_parts(left_job(job, after(job, first_stand(job), away)))
    return [away] + ahead, between, behind


def chain_moves(job):
    """List the MOVES of the boxes in CHAINS, in each one the last box first."""
    goals = goals_of(job)
    return [(box, goals[box]) for row in chains(job) for box in reversed(row)]


def ways_to_room(job):
    """List for each place that CHAINS or nothing need to be free the pair of it and the MOVES that free it."""
    goals = goals_of(job)
    found = [(place, []) for place in free_places(job)]
    for row in chains(job):
        for at in reversed(range(len(row))):
            found.append((row[at], [(box, goals[box]) for box in reversed(row[at:])]))
    return found


def _chain_ends(job):
    """List the MOVES of the last boxes of the CHAINS, which are possible at once."""
    goals = goals_of(job)
    return [(row[-1], goals[row[-1]]) for row in chains(job)]


def _parts_around(job):
    """List in three parts the MOVES of a fewest PLAN of a JOB with a free place."""
    aside, between = _aside_and_between(job)
    ahead, behind, _ = nested(rings(job), aside)
    rest = [move for move in chain_moves(job) if move not in between]
    return ahead, between, behind + rest


def nested(some, aside):
    """Return the MOVES that open these RINGS, those that close them, and the place that is free between."""
    ahead, behind = [], []
    # Each RING is begun inside the one before it, in the place where that one's first box stood. So
    # all MOVES of a RING can lie between two moments only together with the MOVES in the middle.
    for ring in some:
        first, *others = ring_moves(ring, aside)
        ahead, behind = ahead + [first], others + behind
        aside = ring[0]
    return ahead, behind, aside


def _aside_and_between(job):
    """Return a free place, and in a list a CHAIN's MOVE that leaves it free; [] if there is none."""
    for move in _chain_ends(job):
        for place in free_places(job):
            if move[1] != place:
                return place, [move]
    return free_places(job)[0], []


def ring_moves(ring, aside):
    """List the MOVES that bring home the boxes of the RING, its first one being put aside meanwhile."""
    follow = [(ring[at - 1], ring[at]) for at in range(len(ring))]
    return [(ring[0], aside)] + follow[:1] + list(reversed(follow[2:])) + [(aside, ring[1])]


def is_fewest(job, thing):
    """Tell whether thing is a fewest PLAN."""
    return is_plan(job, thing) and len(thing) == fewest_moves(job)


def first_moves(job):
    """Return the set of the MOVES with which some fewest PLAN begins."""
    if not can_be_done(job):
        raise NoPlan()
    asides = [(box, place) for ring in rings(job) for box in ring for place in free_places(job)]
    return tuple(sorted(_chain_ends(job) + asides))


def how_often(job, plan):
    """Return the set of the pairs of each box and how often it moves in this PLAN."""
    counts = {box: 0 for box in boxes(job)}
    for box in boxes_moved(job, plan):
        counts[box] += 1
    return tuple(sorted(counts.items()))
