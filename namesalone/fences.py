"""FENCED MOVES: how far MOVES have lasted when they are cut, and whether that can be told."""

from namesalone.alike import is_readable
from namesalone.errors import NoRule
from namesalone.fewest import plan_in_parts
from namesalone.jobs import rings
from namesalone.moves import after, first_stand, is_plan, possible, sight_of
from namesalone.plain import as_tuples
from namesalone.rules import has_rule

FENCE = "|"


def is_fenced(job, thing):
    """Tell whether thing is a tuple of MOVES and fences whose MOVES are a PLAN."""
    return isinstance(thing, tuple) and is_plan(job, _without_fences(thing))


def moves_in(steps):
    """Return the MOVES without the fences."""
    return _without_fences(as_tuples(steps))


def _without_fences(steps):
    """Return the tuple of all that is no fence."""
    return tuple([step for step in steps if step != FENCE])


def lasting(job, steps):
    """Return the ascending list of the STANDS that can last."""
    done = first_stand(job)
    # Behind each MOVE, recent has the STANDS behind any part of the MOVES since the last fence.
    recent, found = {done: True}, {done: True}
    for step in steps:
        if step == FENCE:
            recent = {done: True}
        else:
            done = after(job, done, step)
            more = [after(job, stand, step) for stand in recent if possible(job, stand, step)]
            recent.update({stand: True for stand in more})
            found.update({stand: True for stand in more})
    return sorted(found)


def stands_by(job, steps, sight):
    """Return the ascending list of the STANDS that can last and have this SIGHT."""
    wanted = as_tuples(sight)
    return [stand for stand in lasting(job, steps) if sight_of(stand) == wanted]


def told_alike(job, steps):
    """Return the least pair of unlike STANDS that can last and have one SIGHT, None if there is none."""
    by_sight = {}
    for stand in lasting(job, steps):
        by_sight.setdefault(sight_of(stand), []).append(stand)
    return min([(row[0], row[1]) for row in by_sight.values() if len(row) > 1], default=None)


def is_tellable(job, steps):
    """Tell whether no two unlike STANDS that can last have one SIGHT."""
    return told_alike(job, steps) is None


def fewest_fences(job):
    """Return how many fences a fewest PLAN must have to be tellable, None if none is so."""
    if not rings(job):
        return 0
    return 2 if has_rule(job) else None


def a_fenced(job):
    """Return a fewest PLAN that is tellable, with as few fences as can be."""
    if not has_rule(job):
        raise NoRule()
    ahead, between, behind = plan_in_parts(job)
    if not rings(job):
        return tuple(ahead + between + behind)
    # Each MOVE of the first part needs the place that the one ahead of it leaves, so that only its
    # beginnings can last. The MOVE between the fences tells them from all that comes behind, where
    # no RING is left whole.
    return tuple(ahead + [FENCE] + between + [FENCE] + behind)


def fences_for(job, plan):
    """Return the numbers of MOVES ahead of as few fences as make a readable PLAN tellable, else None."""
    if is_readable(job, plan):
        # A fence at the begin or at the end tells nothing: only those between two MOVES are tried.
        for spots in _sets_between(len(plan)):
            if is_tellable(job, _with_fences(plan, spots)):
                return spots
    return None


def _sets_between(many):
    """List the sets of numbers above 0 and below many, those of fewer numbers first, then ascending."""
    found = [()]
    for number in range(1, many):
        found = found + [some + (number,) for some in found]
    return sorted(found, key=lambda spots: (len(spots), spots))


def _with_fences(plan, spots):
    """Return the PLAN with a fence behind so many MOVES as each of the spots tells."""
    steps = []
    for number, move in enumerate(plan):
        if number in spots:
            steps.append(FENCE)
        steps.append(move)
    return tuple(steps)
