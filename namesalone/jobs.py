"""JOBS: which places there are, which boxes stand at them, and where each box goes."""

from namesalone.errors import NoName
from namesalone.plain import are_different, as_tuples, is_ascending, is_name_set, is_pair, is_way


def is_job(thing):
    """Tell whether thing is a JOB, of however many places."""
    if not is_pair(thing) or not is_name_set(thing[0]) or not thing[0]:
        return False
    return _is_goal(thing[1], {place: True for place in thing[0]})


def _is_goal(thing, known):
    """Tell whether thing tells, for boxes at the known places alone, to which of them each one goes."""
    if not isinstance(thing, tuple) or not all([is_way(pair) for pair in thing]):
        return False
    starts = [pair[0] for pair in thing]
    ends = [pair[1] for pair in thing if pair[1] is not None]
    if not is_ascending(starts) or not are_different(ends):
        return False
    return all([name in known for name in starts + ends])


def places_of(job):
    """Return the set of all places of the JOB."""
    return as_tuples(job[0])


def goals_of(job):
    """Return a new dict that tells for each box, in ascending order, where it goes."""
    return dict(job[1])


def boxes(job):
    """Return the set of all boxes."""
    return tuple(goals_of(job))


def free_places(job):
    """Return the set of the places at which no box stands at first."""
    goals = goals_of(job)
    return tuple([place for place in places_of(job) if place not in goals])


def staying(job):
    """Return the set of the boxes that go to where they are."""
    return tuple([box for box, end in goals_of(job).items() if end == box])


def thrown(job):
    """Return the set of the boxes that are thrown away."""
    return tuple([box for box, end in goals_of(job).items() if end is None])


def goes_to(job, box):
    """Return the place to which this box goes, None if it is thrown away."""
    goals = goals_of(job)
    if box not in goals:
        raise NoName(box)
    return goals[box]


def _row_from(goals, first):
    """Return first and the boxes behind it, each of which goes to the place of the next one."""
    row = [first]
    while goals[row[-1]] in goals and goals[row[-1]] != first:
        row.append(goals[row[-1]])
    return tuple(row)


def rings(job):
    """Return the set of all RINGS."""
    goals = goals_of(job)
    told = {box: True for row in chains(job) for box in row}
    found = []
    # Boxes come in ascending order, so that the first one met of a RING is its least.
    for box in goals:
        if box not in told and goals[box] != box:
            found.append(_row_from(goals, box))
            told.update({other: True for other in found[-1]})
    return tuple(found)


def chains(job):
    """Return the set of all CHAINS."""
    goals = goals_of(job)
    ends = {end: True for end in goals.values()}
    return tuple([_row_from(goals, box) for box in goals if box not in ends])


def back_job(job):
    """Return the JOB that leads back; job throws nothing away."""
    return places_of(job), tuple(sorted([(end, box) for box, end in goals_of(job).items()]))


def then_job(job, other):
    """Return the JOB of job and, behind it, other."""
    # None is no box of other: a box that job throws away is thrown away in both together.
    later = goals_of(other)
    return places_of(job), tuple([(box, later.get(end)) for box, end in goals_of(job).items()])


def renamed_job(job, pairs):
    """Return the JOB with the second NAME of each of the pairs in the place of the first one."""
    called = {place: place for place in places_of(job)}
    called.update(dict(pairs))
    goal = [(called[box], called.get(end)) for box, end in goals_of(job).items()]
    return tuple(sorted([called[place] for place in places_of(job)])), tuple(sorted(goal))


def with_places(job, names):
    """Return the JOB with these free places, too."""
    return tuple(sorted(places_of(job) + as_tuples(names))), as_tuples(job[1])
