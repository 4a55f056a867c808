"""Looks: which places tell the moment of a PLAN, asked one behind another."""

from namesalone.errors import NoName
from namesalone.jobs import places_of
from namesalone.moves import sights
from namesalone.plain import is_number


def moments_with(job, plan, place):
    """Return the set of the numbers of the moments at which this place is full."""
    if place not in places_of(job):
        raise NoName(place)
    return tuple([moment for moment, full in enumerate(sights(job, plan)) if place in full])


def is_watch(job, plan, some):
    """Tell whether of each two moments some of these places is full at just one."""
    return _tell_apart(sights(job, plan), some)


def _tell_apart(shown, some):
    """Tell whether no two of the SIGHTS shown are the same at these places."""
    return len({tuple([place in full for place in some]) for full in shown}) == len(shown)


def watch(job, plan):
    """Return the least of the smallest sets of places that tell all moments apart, None if none does."""
    shown, places = sights(job, plan), places_of(job)
    # All sets of one size at a time, ascending: the first one that does is the one that is asked for.
    some = [()] if _tell_apart(shown, places) else []
    while some:
        for row in some:
            if _tell_apart(shown, row):
                return row
        some = [less + (place,) for less in some for place in places if less == () or less[-1] < place]
    return None


class Looker:
    """Finds for groups of moments TREES that tell them apart with as few looks as can be."""

    def __init__(self, job, plan):
        self.places = places_of(job)
        self.shown = sights(job, plan)
        self.known = {}

    def best(self):
        """Return how many looks the longest way down a best TREE has, and the TREE; None if there is none."""
        return self.best_of(tuple(range(len(self.shown))))

    def best_of(self, group):
        """Return the same for a group of moments alone."""
        if len(group) == 1:
            return 0, group[0]
        if group not in self.known:
            found = [self.best_with(place, group) for place in self.places]
            self.known[group] = min([row for row in found if row is not None], key=lambda pair: pair[0], default=None)
        return self.known[group]

    def best_with(self, place, group):
        """Return the same for a group of moments, the first look being at this place."""
        full = tuple([moment for moment in group if place in self.shown[moment]])
        free = tuple([moment for moment in group if place not in self.shown[moment]])
        if not full or not free:
            return None
        one, other = self.best_of(full), self.best_of(free)
        if one is None or other is None:
            return None
        return 1 + max(one[0], other[0]), (place, one[1], other[1])


def fewest_looks(job, plan):
    """Return how many looks, one behind another, are enough to tell every moment, None if none are."""
    best = Looker(job, plan).best()
    return None if best is None else best[0]


def a_tree(job, plan):
    """Return a TREE for the PLAN in which no way down has more looks than are needed, None if there is none."""
    best = Looker(job, plan).best()
    return None if best is None else best[1]


def is_tree(job, plan, thing):
    """Tell whether thing is a TREE for the PLAN, of however many looks."""
    if not _is_any_tree(places_of(job), thing):
        return False
    return all([moment_by(thing, full) == moment for moment, full in enumerate(sights(job, plan))])


def _is_any_tree(places, thing):
    """Tell whether thing is a TREE with these places, wherever it leads."""
    if is_number(thing):
        return True
    if not isinstance(thing, tuple) or len(thing) != 3 or thing[0] not in places:
        return False
    return _is_any_tree(places, thing[1]) and _is_any_tree(places, thing[2])


def moment_by(tree, sight):
    """Return the number to which the TREE leads at this SIGHT."""
    while not is_number(tree):
        place, full, free = tree
        tree = full if place in sight else free
    return tree


def tree_depth(tree):
    """Return how many looks the longest way down the TREE has."""
    if is_number(tree):
        return 0
    _, full, free = tree
    return 1 + max(tree_depth(full), tree_depth(free))
