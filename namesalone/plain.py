"""What several files need: NAMEs, pairs and sets, and tuples in the place of lists."""

LETTERS = "abcdefghijklmnopqrstuvwxyz"
LONGEST_NAME = 8


def as_tuples(value):
    """Return value with a tuple in the place of each list, at any depth."""
    # A caller may pass a list wherever a tuple is stated; what is kept or returned has tuples alone.
    if isinstance(value, (list, tuple)):
        return tuple([as_tuples(item) for item in value])
    return value


def is_name(thing):
    """Tell whether thing is a NAME."""
    if not isinstance(thing, str):
        return False
    return 1 <= len(thing) <= LONGEST_NAME and all([sign in LETTERS for sign in thing])


def is_number(thing):
    """Tell whether thing is a number."""
    return isinstance(thing, int) and not isinstance(thing, bool)


def is_pair(thing):
    """Tell whether thing is a tuple of two."""
    return isinstance(thing, tuple) and len(thing) == 2


def is_ascending(row):
    """Tell whether each item of row is below the next one, so that none is there twice."""
    return all([low < high for low, high in zip(row, row[1:])])


def are_different(names):
    """Tell whether no string is twice among names."""
    return len(set(names)) == len(names)


def is_name_set(thing):
    """Tell whether thing is a set of NAMEs."""
    # The members are looked at before they are compared: only strings compare with each other.
    if not isinstance(thing, tuple) or not all([is_name(item) for item in thing]):
        return False
    return is_ascending(thing)


def is_name_pair(thing):
    """Tell whether thing is a pair of NAMEs."""
    return is_pair(thing) and is_name(thing[0]) and is_name(thing[1])


def is_way(thing):
    """Tell whether thing is a pair of a NAME and a NAME or None."""
    return is_name_pair(thing) or (is_pair(thing) and is_name(thing[0]) and thing[1] is None)
