"""STANDS and MOVES: which box is at which place, and how that changes."""

from namesalone.errors import Impossible, NoName, NoNumber
from namesalone.jobs import boxes, goals_of, places_of, thrown
from namesalone.plain import are_different, as_tuples, is_ascending, is_name_pair, is_way


class Floor:
    """The places of a JOB while MOVES are made: full tells the box at each place that is not free."""

    def __init__(self, job, stand):
        self.places = places_of(job)
        self.goals = goals_of(job)
        self.full = dict(stand)

    def allows(self, move):
        """Tell whether the MOVE is possible now."""
        place, other = move
        if place not in self.full:
            return False
        if other is None:
            return self.goals[self.full[place]] is None
        return other in self.places and other not in self.full

    def make(self, move):
        """Make the MOVE and return the box that it moves."""
        if not self.allows(move):
            raise Impossible(move)
        place, other = move
        box = self.full.pop(place)
        if other is not None:
            self.full[other] = box
        return box

    def standing(self):
        """Return the STAND that there is now."""
        return tuple(sorted(self.full.items()))


def possible(job, stand, move):
    """Tell whether the MOVE is possible in the STAND."""
    return Floor(job, stand).allows(move)


def first_stand(job):
    """Return the STAND in which each box is at its own place."""
    return tuple([(box, box) for box in boxes(job)])


def is_stand(job, thing):
    """Tell whether thing is a STAND of the JOB."""
    if not isinstance(thing, tuple) or not all([is_name_pair(pair) for pair in thing]):
        return False
    used, there = [pair[0] for pair in thing], [pair[1] for pair in thing]
    if not is_ascending(used) or not are_different(there):
        return False
    places, goals = {place: True for place in places_of(job)}, goals_of(job)
    if not all([place in places for place in used]) or not all([box in goals for box in there]):
        return False
    # No box is twice in it, so that counting tells whether a box that is to be kept is missing.
    kept = [box for box in there if goals[box] is not None]
    return len(kept) == len(goals) - len(thrown(job))


def is_end(job, stand):
    """Tell whether each box is where it goes, and all that are to be thrown away are so."""
    goals = goals_of(job)
    return all([goals[box] == place for place, box in stand])


def all_possible(job, stand):
    """Return the list of all MOVES that are possible in the STAND."""
    floor = Floor(job, stand)
    free = [place for place in floor.places if place not in floor.full]
    moves = [(place, other) for place, _ in floor.standing() for other in free]
    return moves + [(place, None) for place, box in floor.standing() if floor.goals[box] is None]


def after(job, stand, move):
    """Return the STAND behind the MOVE."""
    floor = Floor(job, stand)
    floor.make(move)
    return floor.standing()


def move_between(job, one, other):
    """Return the MOVE that leads from the STAND one to the STAND other, None if there is none."""
    later = as_tuples(other)
    gone = [pair for pair in as_tuples(one) if pair not in later]
    if len(gone) != 1:
        return None
    # Just one box has left its place: other tells where it went. That place is free in one, as each
    # other box of one is in other where it was; but other may hold a box that one holds no more.
    place, box = gone[0]
    move = (place, where_is(job, later, box))
    return move if after(job, one, move) == later else None


def where_is(job, stand, box):
    """Return the place at which the box is, None if it has been thrown away."""
    if box not in boxes(job):
        raise NoName(box)
    found = {held: place for place, held in stand}
    return found.get(box)


def what_is_at(job, stand, place):
    """Return the box at the place, None if there is none."""
    if place not in places_of(job):
        raise NoName(place)
    return dict(stand).get(place)


def sight_of(stand):
    """Return the SIGHT of the STAND: the set of the places that are full."""
    return tuple([place for place, _ in stand])


def left_job(job, stand):
    """Return the JOB that is left, each box called as the place at which it is now."""
    goals = goals_of(job)
    return places_of(job), tuple([(place, goals[box]) for place, box in stand])


def is_plan(job, thing):
    """Tell whether thing is a PLAN of the JOB, of however many MOVES."""
    if not isinstance(thing, tuple) or not all([is_way(move) for move in thing]):
        return False
    floor = Floor(job, first_stand(job))
    for move in thing:
        if not floor.allows(move):
            return False
        floor.make(move)
    return is_end(job, floor.standing())


def stands_along(job, plan):
    """Return the list of the STANDS at all moments of plan, from 0 on."""
    floor = Floor(job, first_stand(job))
    stands = [floor.standing()]
    for move in plan:
        floor.make(move)
        stands.append(floor.standing())
    return stands


def boxes_moved(job, plan):
    """Return the list of the boxes that the MOVES of plan move, one for each MOVE."""
    floor = Floor(job, first_stand(job))
    return [floor.make(move) for move in plan]


def stand_at(job, plan, moment):
    """Return the STAND behind so many MOVES of plan."""
    stands = stands_along(job, plan)
    if not 0 <= moment < len(stands):
        raise NoNumber(moment)
    return stands[moment]


def sights(job, plan):
    """Return the tuple of the SIGHTS at all moments of plan, from 0 on."""
    return tuple([sight_of(stand) for stand in stands_along(job, plan)])
