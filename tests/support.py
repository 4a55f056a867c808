"""What several tests need: jobs of every kind, and a search through all stands that asks no package."""

from itertools import combinations, permutations, product

JOB = (("a", "b", "c", "d", "t"), (("a", "b"), ("c", "d"), ("d", "c")))
PLAN = (("c", "t"), ("a", "b"), ("d", "c"), ("t", "d"))
FAR = (("p", "q", "r", "s", "z"), (("p", "q"), ("q", "r"), ("r", None), ("s", "s")))
SCRAP = (("p", "q"), (("p", "q"), ("q", None)))
LONE = (("c", "d", "t"), (("c", "d"), ("d", "c")))
STUCK = (("c", "d"), (("c", "d"), ("d", "c")))
EMPTY = (("a",), ())
NAMES40 = tuple(one + other for one in "abcd" for other in "abcdefghij")

# What is no NAME, no pair, no set and no MOVE, whatever the place at which it stands.
STRANGE = (
    True, False, None, 0, 1, -1, 10 ** 41, "", "A", "a b", "a1", "abcdefghi", "\u00e9", "\n", "a\n",
    "-", "zz", (), [], (()), ((),), [[]], ("a",), ["a"], ("a", "b"), ["a", "b"], ("a", "b", "c"),
    ("a", True), (1, 2), (None, None), ("a", None), (None, "a"), (("a", "b"),), ((((((((((("a",),),),),),),),),),),),
)


def jobs_with(places):
    """Every JOB with just these places."""
    for many in range(len(places) + 1):
        for found in combinations(places, many):
            for ends in product(places + (None,), repeat=many):
                kept = [end for end in ends if end is not None]
                if len(set(kept)) == len(kept):
                    yield places, tuple(zip(found, ends))


def small_jobs(most=4):
    """Every JOB with the first one to four letters as places."""
    for many in range(1, most + 1):
        yield from jobs_with(tuple("abcd"[:many]))


def job_of(rings, chains, stays, free, names=NAMES40):
    """A JOB with RINGS and CHAINS of these lengths (of CHAINS: and whether thrown), and more places."""
    left, used, goal = list(names), [], []
    for many in rings:
        row = [left.pop(0) for _ in range(many)]
        used += row
        goal += list(zip(row, row[1:] + row[:1]))
    for many, away in chains:
        row = [left.pop() for _ in range(many)]
        last = None if away else left.pop()
        used += row + ([] if away else [last])
        goal += list(zip(row, row[1:] + [last]))
    for _ in range(stays):
        used.append(left.pop())
        goal.append((used[-1], used[-1]))
    used += [left.pop() for _ in range(free)]
    return tuple(sorted(used)), tuple(sorted(goal))


# JOBS of five and six places: what small_jobs does not hold, a RING beside a CHAIN and two free places.
WIDER_JOBS = tuple(job_of(*row, names="abcdefgh"[:6]) for row in (
    ((2,), ((1, False),), 0, 1), ((3,), ((1, False),), 0, 1), ((2,), ((2, False),), 0, 1),
    ((2, 2), ((1, True),), 0, 1), ((2,), ((1, True), (1, True)), 0, 0), ((2,), ((2, True), (1, True)), 0, 0),
    ((2, 2), ((1, True), (1, True)), 0, 0), ((2,), ((1, True),), 1, 1), ((2,), ((2, True),), 0, 1),
    ((2, 2), ((1, False),), 0, 0), ((2, 2), ((1, True),), 0, 0), ((2, 2), (), 0, 1), ((3,), ((2, True),), 0, 0),
    ((2, 3), (), 0, 1), ((4,), (), 0, 1), ((2,), ((1, False), (1, True)), 0, 0), ((2, 2), (), 1, 0),
    ((), ((2, False), (3, True)), 0, 0), ((), ((2, True), (2, True)), 1, 0), ((3,), ((1, True), (1, True)), 0, 0),
))

# JOBS of 40 places: RINGS and CHAINS of many kinds, with one free place, with more, with none.
GREAT_JOBS = (
    job_of((40,), (), 0, 0),
    job_of((39,), (), 0, 1),
    job_of((2,) * 19, (), 1, 1),
    job_of((2,) * 18, ((1, False),), 1, 1),
    job_of((2,) * 19, ((1, True), (1, True)), 0, 0),
    job_of((2,) * 19, ((2, True),), 0, 0),
    job_of((3, 4, 5), ((6, False), (3, True), (4, True)), 5, 9),
    job_of((2, 3), ((10, False), (10, False), (10, True)), 3, 0),
    job_of((), ((39, False),), 0, 0),
    job_of((), ((40, True),), 0, 0),
    job_of((), (), 40, 0),
    job_of((), (), 0, 40),
    job_of((), ((1, True),) * 40, 0, 0),
    job_of((20, 20), (), 0, 0),
    job_of((9, 9, 9), ((8, True), (3, True)), 2, 0),
    job_of((7, 2, 9), ((8, False), (9, False)), 1, 2),
)


def stands_of(job):
    """Every STAND of the JOB."""
    places, goal = job
    kept = [box for box, end in goal if end is not None]
    away = [box for box, end in goal if end is None]
    for many in range(len(away) + 1):
        for some in combinations(away, many):
            row = kept + list(some)
            for where in permutations(places, len(row)):
                yield tuple(sorted(zip(where, row)))


def moves_from(job, stand):
    """The pairs of each MOVE that is possible in the STAND and the STAND behind it."""
    places, goal = job
    full = [place for place, _ in stand]
    for pair in stand:
        others = [own for own in stand if own != pair]
        for other in places:
            if other not in full:
                yield (pair[0], other), tuple(sorted(others + [(other, pair[1])]))
        if (pair[1], None) in goal:
            yield (pair[0], None), tuple(others)


def start_of(job):
    return tuple((box, box) for box, _ in job[1])


def end_of(job):
    return tuple(sorted((end, box) for box, end in job[1] if end is not None))


def far_from_end(job):
    """How many MOVES each STAND from which the end can be reached, itself reached, is away from it."""
    behind, queue = {}, [start_of(job)]
    for stand in queue:
        if stand not in behind:
            behind[stand] = [other for _, other in moves_from(job, stand)]
            queue += behind[stand]
    ahead = {stand: [] for stand in behind}
    for stand, others in behind.items():
        for other in others:
            ahead[other].append(stand)
    if end_of(job) not in behind:
        return {}
    far, row = {end_of(job): 0}, [end_of(job)]
    for stand in row:
        for other in ahead[stand]:
            if other not in far:
                far[other] = far[stand] + 1
                row.append(other)
    return far


def full_at(stand):
    return tuple(place for place, _ in stand)


def kinds_at(kinds):
    """What shows of a STAND which kind lies where."""
    kind_of = dict(kinds)
    return lambda stand: tuple((place, kind_of[box]) for place, box in stand)


def some_plan_is_readable(job, show=full_at, stand=None, seen=()):
    """Whether some way from the STAND to the end shows nothing twice and nothing of what was seen."""
    stand = start_of(job) if stand is None else stand
    if stand == end_of(job):
        return True
    seen += (show(stand),)
    # All ways end with what is shown there: it spares a search through a great many of them.
    if show(end_of(job)) in seen:
        return False
    return any(show(other) not in seen and some_plan_is_readable(job, show, other, seen)
               for _, other in moves_from(job, stand))


def follow(job, rule, show=full_at):
    """By the words of the document: the MOVES, what is seen, and how it ends."""
    told, stand, moves = dict(rule), start_of(job), []
    seen = [show(stand)]
    while seen[-1] in told:
        if seen.count(seen[-1]) > 1:
            return tuple(moves), seen, "round"
        ways = dict(moves_from(job, stand))
        move = told[seen[-1]]
        if move not in ways:
            return tuple(moves), seen, "stuck"
        moves.append(move)
        stand = ways[move]
        seen.append(show(stand))
    return tuple(moves), seen, "right" if stand == end_of(job) else "elsewhere"


def stands_behind(job, plan):
    """The STANDS at all moments of a tuple of MOVES; None behind one that is not possible."""
    found = [start_of(job)]
    for move in plan:
        ways = dict(moves_from(job, found[-1]))
        if move not in ways:
            return None
        found.append(ways[move])
    return found


def shows_no_sight_twice(job, plan):
    shown = sights_shown(job, plan)
    return len(set(shown)) == len(shown)


def fewest_plans(job):
    """All fewest PLANS, ascending, found by a search through all STANDS."""
    far = far_from_end(job)
    if start_of(job) not in far:
        return []
    rows = [((), start_of(job))]
    for left in reversed(range(far[start_of(job)])):
        rows = [(plan + (move,), other) for plan, stand in rows for move, other in moves_from(job, stand)
                if far.get(other) == left]
    return sorted([plan for plan, _ in rows])


def rings_of(job):
    """The RINGS, by the words of the document."""
    goal, found = dict(job[1]), []
    for box in sorted(goal):
        row = [box]
        while goal[row[-1]] in goal and goal[row[-1]] not in row:
            row.append(goal[row[-1]])
        if goal[row[-1]] == box and len(row) > 1 and box == min(row):
            found.append(tuple(row))
    return found


def ways_on(job, full, whole):
    """The MOVES by which a fewest PLAN can go on: a box goes where it goes, or the first one of a RING aside."""
    goal, free = dict(job[1]), [place for place in job[0] if place not in full]
    home = [(place, goal[box]) for place, box in full.items() if goal[box] is None or goal[box] in free]
    return sorted(home + [(box, place) for row in whole for box in row for place in free])


def gone_on(full, whole, move):
    """What is full behind the MOVE, and the RINGS that are still whole."""
    left = {place: box for place, box in full.items() if place != move[0]}
    if move[1] is not None:
        left[move[1]] = full[move[0]]
    return left, [row for row in whole if move[0] not in row]


def plans_by_words(job, full=None, whole=None):
    """All fewest PLANS of a JOB that has one, ascending: what the guarantee of [6] says that they are."""
    full = dict(start_of(job)) if full is None else full
    whole = rings_of(job) if whole is None else whole
    ways = ways_on(job, full, whole)
    if not ways:
        return [()]
    return [(move,) + rest for move in ways for rest in plans_by_words(job, *gone_on(full, whole, move))]


def drawn_plan(job, draw):
    """One fewest PLAN of a JOB that has one, of however many places, drawn MOVE by MOVE."""
    full, whole, plan = dict(start_of(job)), rings_of(job), []
    ways = ways_on(job, full, whole)
    while ways:
        plan.append(draw.choice(ways))
        full, whole = gone_on(full, whole, plan[-1])
        ways = ways_on(job, full, whole)
    return tuple(plan)


def walked_plan(job, draw, many):
    """A PLAN of a small JOB that begins with so many MOVES drawn at will."""
    far, stand, plan = far_from_end(job), start_of(job), []
    for _ in range(many):
        ways = [way for way in moves_from(job, stand) if way[1] in far]
        if ways:
            move, stand = draw.choice(ways)
            plan.append(move)
    while far[stand]:
        move, stand = draw.choice([way for way in moves_from(job, stand) if far.get(way[1]) == far[stand] - 1])
        plan.append(move)
    return tuple(plan)


def sights_shown(job, plan):
    """The SIGHTS at all moments of a PLAN."""
    return [full_at(stand) for stand in stands_behind(job, plan)]


def as_lists(value):
    """The value with lists in the place of tuples, at any depth."""
    return [as_lists(item) for item in value] if isinstance(value, (tuple, list)) else value


def has_list(value):
    """Whether there is a list in the value, at any depth."""
    return isinstance(value, list) or isinstance(value, tuple) and any([has_list(item) for item in value])


def with_one_list(value):
    """The value with one of its tuples, at whatever depth, as a list."""
    if isinstance(value, tuple):
        yield list(value)
        for at, item in enumerate(value):
            for other in with_one_list(item):
                yield value[:at] + (other,) + value[at + 1:]


def bent(value):
    """Values that are alike to value but for one thing at some depth, and value itself."""
    yield value
    yield from STRANGE
    if isinstance(value, tuple):
        yield list(value)
        yield value + value[-1:]
        yield value[:-1]
        yield value[1:]
        yield value[::-1]
        for at, item in enumerate(value):
            for other in bent(item):
                yield value[:at] + (other,) + value[at + 1:]
