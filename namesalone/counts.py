"""Fewest PLANS counted, and numbered in ascending order."""

from math import comb

from namesalone.alike import is_readable
from namesalone.errors import NoNumber
from namesalone.fewest import can_be_done, first_moves, is_fewest
from namesalone.jobs import chains, rings
from namesalone.moves import after, first_stand, is_end, left_job, sight_of, what_is_at
from namesalone.plain import as_tuples


class Ways:
    """Counts the ways in which fewest PLANS of a JOB go on, or those of them alone that are readable.

    A spot on a way is a pair: the STAND there, and the STANDS ahead of it whose SIGHTS must not come again.
    """

    def __init__(self, job, only_readable):
        self.given = job
        self.only_readable = only_readable
        self.ring_with = {box: ring for ring in rings(job) for box in ring}
        self.known = {}

    def start(self):
        """Return the spot at which all ways begin."""
        return first_stand(self.given), ()

    def steps(self, spot):
        """List for each MOVE that can come next, in ascending order, the pair of it and the spot behind."""
        stand = spot[0]
        found = []
        for move in first_moves(left_job(self.given, stand)):
            behind, barred = after(self.given, stand, move), self.barred_behind(spot, move)
            if sight_of(behind) not in [sight_of(ahead) for ahead in barred]:
                found.append((move, (behind, barred)))
        return found

    def barred_behind(self, spot, move):
        """Return the STANDS whose SIGHTS must not come again if this MOVE is made at the spot."""
        stand, barred = spot
        ring = self.ring_with.get(what_is_at(self.given, stand, move[0]))
        if not self.only_readable or ring is None:
            return ()
        # Moments are alike only if the MOVES between them are those of RINGS, all of each of them. So a
        # SIGHT from ahead can come again behind a MOVE only if that is one of a RING then whole.
        return tuple([ahead for ahead in barred + (stand,) if _is_whole(ahead, ring)])

    def many(self, spot):
        """Return how many ways lead from the spot to the end."""
        if spot not in self.known:
            self.known[spot] = self.sum_of(spot)
        return self.known[spot]

    def sum_of(self, spot):
        """Return how many ways lead from a spot that is not yet known to the end."""
        stand, barred = spot
        left = left_job(self.given, stand)
        if not rings(left) and not barred:
            return _interleavings([len(row) for row in chains(left)])
        return sum([self.many(behind) for _, behind in self.steps(spot)])

    def in_all(self):
        """Return how many ways there are."""
        return self.many(self.start()) if can_be_done(self.given) else 0


def _is_whole(stand, ring):
    """Tell whether no box of the RING has moved yet in the STAND."""
    return all([(box, box) in stand for box in ring])


def _interleavings(lengths):
    """Return in how many orders rows of these lengths can be gone through, each row in its own order."""
    many, so_far = 1, 0
    for length in lengths:
        so_far += length
        many = many * comb(so_far, length)
    return many


def _nth(job, number, only_readable):
    """Return the PLAN with this number of those that are counted."""
    ways = Ways(job, only_readable)
    if not 0 <= number < ways.in_all():
        raise NoNumber(number)
    plan, spot, rest = [], ways.start(), number
    while not is_end(job, spot[0]):
        for move, behind in ways.steps(spot):
            if rest < ways.many(behind):
                break
            rest -= ways.many(behind)
        plan.append(move)
        spot = behind
    return tuple(plan)


def _number_of(job, plan, only_readable):
    """Return the number of a PLAN that is among those that are counted."""
    ways = Ways(job, only_readable)
    number, spot = 0, ways.start()
    for made in plan:
        steps = ways.steps(spot)
        number += sum([ways.many(behind) for move, behind in steps if move < made])
        spot = dict(steps)[made]
    return number


def how_many_plans(job):
    """Return how many fewest PLANS there are."""
    return Ways(job, False).in_all()


def nth_plan(job, number):
    """Return the fewest PLAN with this number."""
    return _nth(job, number, False)


def number_of_plan(job, plan):
    """Return the number of this PLAN, None if it is not a fewest one."""
    way = as_tuples(plan)
    return _number_of(job, way, False) if is_fewest(job, way) else None


def how_many_readable(job):
    """Return how many readable fewest PLANS there are."""
    return Ways(job, True).in_all()


def nth_readable(job, number):
    """Return the readable fewest PLAN with this number."""
    return _nth(job, number, True)


def number_of_readable(job, plan):
    """Return the number of this PLAN among the readable fewest ones, None if it is none of them."""
    way = as_tuples(plan)
    return _number_of(job, way, True) if is_fewest(job, way) and is_readable(job, way) else None


def readable_begin_moves(job):
    """Return the set of the MOVES with which some readable fewest PLAN begins."""
    if not can_be_done(job):
        return ()
    ways = Ways(job, True)
    return tuple([move for move, behind in ways.steps(ways.start()) if ways.many(behind) > 0])
