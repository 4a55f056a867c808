"""RULES: what is seen, so this is moved."""

from namesalone.alike import is_readable
from namesalone.errors import NoRule
from namesalone.fewest import a_plan, can_be_done
from namesalone.jobs import chains, free_places, places_of, rings, thrown, with_places
from namesalone.moves import Floor, first_stand, is_end, sight_of, sights
from namesalone.plain import as_tuples, is_ascending, is_name_set, is_pair, is_way


def has_rule(job):
    """Tell whether a right RULE exists."""
    return why_none(job) is None


def why_none(job):
    """Return why no right RULE exists: "stuck", "same" or "one"; None if one does."""
    if not rings(job):
        return None
    if not can_be_done(job):
        return "stuck"
    if not chains(job):
        return "same"
    return None if _room(job) >= 2 else "one"


def _room(job):
    """Return how many places are free at first or become free by throwing away."""
    return len(free_places(job)) + len(thrown(job))


def places_needed(job):
    """Return how many further free places it takes for a right RULE, None if none help."""
    if not rings(job):
        return 0
    return max(0, 2 - _room(job)) if chains(job) else None


def a_rule(job):
    """Return a right RULE with as few pairs as can be."""
    if not has_rule(job):
        raise NoRule()
    return rule_of(job, a_plan(job))


def rule_of(job, plan):
    """Return the RULE that tells at the SIGHT of each moment of the PLAN its next MOVE."""
    if not is_readable(job, plan):
        raise NoRule()
    # There is one SIGHT more than there are MOVES: the last one, at which nothing is told.
    return tuple(sorted(zip(sights(job, plan), as_tuples(plan))))


def is_rule(job, thing):
    """Tell whether thing is a right RULE for the JOB, of however many pairs."""
    if not isinstance(thing, tuple):
        return False
    known = {place: True for place in places_of(job)}
    if not all([_is_told(known, pair) for pair in thing]) or not is_ascending([pair[0] for pair in thing]):
        return False
    return followed(job, thing)[1] == "right"


def _is_told(known, thing):
    """Tell whether thing is a pair of a set of the known places and a MOVE between them."""
    if not is_pair(thing) or not is_name_set(thing[0]) or not is_way(thing[1]):
        return False
    return all([name is None or name in known for name in thing[0] + thing[1]])


def _moves_by_sight(rule):
    """Return a new dict that tells for each SIGHT that the RULE tells its MOVE."""
    return {sight: move for sight, move in as_tuples(rule)}


def move_at(rule, sight):
    """Return the MOVE that the RULE tells at this SIGHT, None if there is none."""
    return _moves_by_sight(rule).get(as_tuples(sight))


def followed(job, rule):
    """Return the MOVES that are made if the RULE is followed, and how this ends."""
    told, floor = _moves_by_sight(rule), Floor(job, first_stand(job))
    seen, made = {}, []
    sight = sight_of(floor.standing())
    while sight in told and sight not in seen and floor.allows(told[sight]):
        seen[sight] = True
        made.append(told[sight])
        floor.make(told[sight])
        sight = sight_of(floor.standing())
    if sight in seen:
        return tuple(made), "round"
    if sight in told:
        return tuple(made), "stuck"
    if is_end(job, floor.standing()):
        return tuple(made), "right"
    return tuple(made), "elsewhere"


def _sights_followed(job, rule):
    """Return the tuple of the SIGHTS that are seen, one behind another, if the RULE is followed."""
    return sights(job, followed(job, rule)[0])


def seen_at(job, rule, sight):
    """Return behind how many MOVES this SIGHT is first seen, None if it is not."""
    shown, wanted = _sights_followed(job, rule), as_tuples(sight)
    return shown.index(wanted) if wanted in shown else None


def unseen(job, rule):
    """Return the ascending list of the SIGHTS that the RULE tells and that are never seen."""
    shown = _sights_followed(job, rule)
    return [sight for sight in _moves_by_sight(rule) if sight not in shown]
