"""RULES: what is seen, so this is moved."""

from namesalone.alike import equal_pairs
from namesalone.errors import NoRule
from namesalone.fewest import a_plan, can_be_done
from namesalone.jobs import chains, free_places, places_of, rings, thrown
from namesalone.moves import Floor, first_stand, is_end, sight_of, sights
from namesalone.plain import as_tuples, is_ascending, is_name_set, is_pair, is_way


def has_rule(job):
    """Tell whether a right RULE exists."""
    return why_none(job) is None


def why_none(job):
    """Return why no right RULE exists: "stuck", "same" or "one"; None if one does."""
    if not rings(job):
        return None
    if not can_be_done(job):
        return "stuck"
    if not chains(job):
        return "same"
    return None if room(job) >= 2 else "one"


def room(job):
    """Return how many places are free at first or become free by throwing away."""
    return len(free_places(job)) + len(thrown(job))


def places_needed(job):
    """Return how many further free places it takes for a right RULE, None if none help."""
    if not rings(job):
        return 0
    return max(0, 2 - room(job)) if chains(job) else None


def a_rule(job):
    """Return a right RULE with as few pairs as can be."""
    if not has_rule(job):
        raise NoRule()
    return rule_of(job, a_plan(job))


def rule_of(job, plan):
    """Return the RULE that tells at the SIGHT of each moment of the PLAN its next MOVE."""
    return rule_from(sights(job, plan), plan)


def rule_from(shown, plan):
    """Return the pairs, ascending, of what is shown at each moment of the PLAN and its next MOVE."""
    if equal_pairs(shown):
        raise NoRule()
    # What is shown is one more than there are MOVES: at the last moment nothing is told.
    return tuple(sorted(zip(shown, as_tuples(plan))))


def is_rule(job, thing):
    """Tell whether thing is a right RULE for the JOB, of however many pairs."""
    known = {place: True for place in places_of(job)}
    return is_right(job, thing, lambda sight: is_name_set(sight) and are_known(known, sight), sight_of)


def is_right(job, thing, is_seen, show):
    """Tell whether thing leads right, its pairs telling a MOVE for what can be seen, as show shows it."""
    if not isinstance(thing, tuple):
        return False
    known = {place: True for place in places_of(job)}
    if not all([is_pair(pair) and is_seen(pair[0]) and _is_between(known, pair[1]) for pair in thing]):
        return False
    return is_ascending([pair[0] for pair in thing]) and follow(job, moves_told(thing), show)[1] == "right"


def are_known(known, names):
    """Tell whether all these strings are keys of known."""
    return all([name in known for name in names])


def _is_between(known, thing):
    """Tell whether thing is a pair of a known place and another one or None."""
    return is_way(thing) and are_known(known, [name for name in thing if name is not None])


def moves_told(rule):
    """Return a new dict that tells for each thing seen that the RULE tells its MOVE."""
    return {seen: move for seen, move in as_tuples(rule)}


def move_at(rule, sight):
    """Return the MOVE that the RULE tells at this SIGHT, None if there is none."""
    return moves_told(rule).get(as_tuples(sight))


def followed(job, rule):
    """Return the MOVES that are made if the RULE is followed, and how this ends."""
    return follow(job, moves_told(rule), sight_of)


def follow(job, told, show):
    """Return the MOVES that are made as told for what show shows of each STAND, and how this ends."""
    floor, seen, made = Floor(job, first_stand(job)), {}, []
    shown = show(floor.standing())
    while shown in told and shown not in seen and floor.allows(told[shown]):
        seen[shown] = True
        made.append(told[shown])
        floor.make(told[shown])
        shown = show(floor.standing())
    if shown in seen:
        return tuple(made), "round"
    if shown in told:
        return tuple(made), "stuck"
    if is_end(job, floor.standing()):
        return tuple(made), "right"
    return tuple(made), "elsewhere"


def _sights_followed(job, rule):
    """Return the tuple of the SIGHTS that are seen, one behind another, if the RULE is followed."""
    return sights(job, followed(job, rule)[0])


def seen_at(job, rule, sight):
    """Return behind how many MOVES this SIGHT is first seen, None if it is not."""
    shown, wanted = _sights_followed(job, rule), as_tuples(sight)
    return shown.index(wanted) if wanted in shown else None


def unseen(job, rule):
    """Return the ascending list of the SIGHTS that the RULE tells and that are never seen."""
    shown = _sights_followed(job, rule)
    return [sight for sight in moves_told(rule) if sight not in shown]
