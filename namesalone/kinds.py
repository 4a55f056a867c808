"""KINDS: what can be told if it is seen which kind of box lies where."""

from namesalone.alike import equal_pairs
from namesalone.errors import NoName, NoPlan, NoRule
from namesalone.fewest import a_plan, can_be_done, chain_moves, nested, ring_moves, ways_to_room
from namesalone.jobs import boxes, chains, places_of, rings
from namesalone.moves import stands_along
from namesalone.plain import is_ascending, is_name_pair
from namesalone.rules import are_known, has_rule, is_right, rule_from


def is_kinds(job, thing):
    """Tell whether thing is KINDS of the JOB."""
    if not isinstance(thing, tuple) or not all([is_name_pair(pair) for pair in thing]):
        return False
    return tuple([pair[0] for pair in thing]) == boxes(job)


def _are_of_one_kind(kinds, some):
    """Tell whether all of some boxes have the same kind."""
    kind_of = dict(kinds)
    return all([kind_of[box] == kind_of[some[0]] for box in some])


def silent_rings(job, kinds):
    """Return the set of the RINGS all of whose boxes have one kind."""
    return tuple([ring for ring in rings(job) if _are_of_one_kind(kinds, ring)])


def sight_by(kinds, stand):
    """Return the SIGHT BY KINDS of the STAND: which kind of box lies where."""
    kind_of = dict(kinds)
    return tuple([(place, kind_of[box]) for place, box in stand])


def sights_by(job, kinds, plan):
    """Return the tuple of the SIGHTS BY KINDS of all moments of the PLAN."""
    return tuple([sight_by(kinds, stand) for stand in stands_along(job, plan)])


def is_readable_by(job, kinds, plan):
    """Tell whether no two moments of the PLAN are alike by KINDS."""
    return first_alike_by(job, kinds, plan) is None


def first_alike_by(job, kinds, plan):
    """Return the least pair of moments that are alike by KINDS, None if there is none."""
    return min(equal_pairs(sights_by(job, kinds, plan)), default=None)


def has_rule_by(job, kinds):
    """Tell whether there is a right RULE BY KINDS; None where this hangs on what is not asked here."""
    if not can_be_done(job):
        return False
    # Each of these is enough: without RINGS there is a right RULE; a RING that is not silent shows
    # ever after, by its kinds, which silent ones have been opened ahead of it.
    if has_rule(job) or silent_rings(job, kinds) != rings(job):
        return True
    if not chains(job) or _are_of_one_kind(kinds, boxes(job)):
        return False
    return None


def a_plan_by(job, kinds):
    """Return a fewest PLAN that is readable by KINDS."""
    if has_rule_by(job, kinds) is not True:
        raise NoRule()
    # What can be told by full places alone can be told by KINDS.
    return a_plan(job) if has_rule(job) else _plan_around(job, silent_rings(job, kinds))


def _plan_around(job, silent):
    """Return a fewest PLAN that makes all other RINGS while the silent ones are open."""
    aside, away = ways_to_room(job)[0]
    ahead, behind, inner = nested(silent, aside)
    between = [move for ring in rings(job) if ring not in silent for move in ring_moves(ring, inner)]
    rest = [move for move in chain_moves(job) if move not in away]
    return tuple(away + ahead + between + behind + rest)


def rule_by(job, kinds, plan):
    """Return the RULE BY KINDS by which each MOVE of the PLAN is made where it stands."""
    return rule_from(sights_by(job, kinds, plan), plan)


def is_rule_by(job, kinds, thing):
    """Tell whether thing is a right RULE BY KINDS, of however many pairs."""
    known = {place: True for place in places_of(job)}
    return is_right(job, thing, lambda seen: _is_seen(known, seen), lambda stand: sight_by(kinds, stand))


def _is_seen(known, thing):
    """Tell whether thing is a set of pairs of a known place and a NAME, no place twice."""
    if not isinstance(thing, tuple) or not all([is_name_pair(pair) for pair in thing]):
        return False
    used = [pair[0] for pair in thing]
    return is_ascending(used) and are_known(known, used)


def painted(job, box):
    """Return the KINDS in which this box is "paint" and all others are "plain"."""
    if box not in boxes(job):
        raise NoName(box)
    return tuple([(other, "paint" if other == box else "plain") for other in boxes(job)])


def to_paint(job):
    """Return the least box of a RING that makes a right RULE BY KINDS if painted, None if there is a RULE."""
    if not can_be_done(job):
        raise NoPlan()
    # A painted box makes its RING one that is not silent, which is enough. RINGS begin with their
    # least boxes and ascend, so that the first box of the first one is the least of all.
    return None if has_rule(job) else rings(job)[0][0]
