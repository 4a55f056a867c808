"""Kinds that are seen ([11])."""

import unittest
from itertools import combinations, product
from random import Random

from namesalone.errors import NoName, NoPlan, NoRule
from namesalone.fewest import is_fewest
from namesalone.kinds import (a_plan_by, first_alike_by, has_rule_by, is_kinds, is_readable_by, is_rule_by, painted,
                              rule_by, sights_by, silent_rings, to_paint)
from namesalone.rules import has_rule
from tests.support import (EMPTY, FAR, GREAT_JOBS, JOB, LONE, PLAN, SCRAP, STRANGE, STUCK, WIDER_JOBS, as_lists, bent,
                           drawn_plan, far_from_end, fewest_plans, follow, job_of, kinds_at, rings_of, small_jobs,
                           some_plan_is_readable, stands_behind, start_of, walked_plan, with_one_list)

SMALL = list(small_jobs())
ODD = (("c", "blue"), ("d", "red"))
SAME = (("c", "blue"), ("d", "blue"))
TURN = (("c", "t"), ("d", "c"), ("t", "d"))
RULE = ((ODD, ("c", "t")), ((("c", "red"), ("t", "blue")), ("t", "d")), ((("d", "red"), ("t", "blue")), ("d", "c")))
# JOBS with one place that is free or becomes so: whether there is a rule hangs on the kinds alone.
ONE_ROOM = tuple(job_of(*row, names="abcdefgh") for row in (
    ((2, 2), ((1, True),), 0, 0), ((2, 3), ((1, True),), 1, 0), ((2, 2), ((2, False),), 0, 0),
                                                            ((2, 2), ((2, True),), 0, 0),
    ((2, 2), (), 0, 1), ((2, 3), (), 1, 1), ((2, 2, 2), (), 0, 1), ((3, 2), ((1, False),), 0, 0),
))
MORE_ROOM = tuple(job_of(*row, names="abcdefgh") for row in (
    ((2, 2), (), 0, 2), ((3, 3), (), 0, 2), ((2, 2), ((1, False),), 0, 1), ((2,), ((2, True), (1, True)), 0, 0),
))


def all_kinds(job, names=("blue", "red", "x")):
    """Every tuple of KINDS of the JOB from these names."""
    for row in product(names, repeat=len(job[1])):
        yield tuple((pair[0], name) for pair, name in zip(job[1], row))


def drawn_kinds(job, draw):
    """KINDS of all sorts: of the same kind, all unlike, a part of the RINGS silent, and others."""
    own = [box for box, _ in job[1]]
    letters = "abcdefghijklmnopqrstuvwxyz"
    yield tuple((box, "one") for box in own)
    yield tuple((box, "k" + letters[at // 26] + letters[at % 26]) for at, box in enumerate(own))
    some = draw.sample(rings_of(job), draw.randint(0, len(rings_of(job))))
    for loud in (some, rings_of(job)[-1:], rings_of(job)[:1]):
        odd = {draw.choice(row) for row in loud}
        yield tuple((box, "odd" if box in odd else "even") for box in own)
    in_rings = {box for row in rings_of(job) for box in row}
    yield tuple((box, "ring" if box in in_rings else "chain") for box in own)
    yield tuple((box, draw.choice(("blue", "red"))) for box in own)


def silent_of(job, kinds):
    kind_of = dict(kinds)
    return tuple(row for row in rings_of(job) if len({kind_of[box] for box in row}) == 1)


def chained(job):
    """Whether there is a CHAIN: a box that goes to a place that is free at first, or is thrown away."""
    return any(end is None or end not in dict(job[1]) for _, end in job[1])


def room_of(job):
    return len(job[0]) - len(job[1]) + len([end for _, end in job[1] if end is None])


def told(job, kinds):
    """What has_rule_by must tell, by the words of the document."""
    row, silent = rings_of(job), silent_of(job, kinds)
    if not row:
        return True
    if room_of(job) == 0:
        return False
    if not silent or len(silent) < len(row) or chained(job) and room_of(job) >= 2:
        return True
    if not chained(job) or len({kind for _, kind in kinds}) == 1:
        return False
    return None


def shown_by(job, kinds, plan):
    return tuple(map(kinds_at(kinds), stands_behind(job, plan)))


def alike_by(job, kinds, plan):
    """The pairs of moments that are alike by KINDS, ascending."""
    shown = shown_by(job, kinds, plan)
    return [pair for pair in combinations(range(len(shown)), 2) if shown[pair[0]] == shown[pair[1]]]


class IsKinds(unittest.TestCase):
    def test_each_box_just_once(self):
        for job in SMALL + list(GREAT_JOBS):
            for kinds in drawn_kinds(job, Random(1)):
                self.assertIs(is_kinds(job, kinds), True)
                self.assertIs(is_kinds(job, kinds[1:]), not kinds)
                self.assertIs(is_kinds(job, kinds + kinds[-1:]), not kinds)
                self.assertIs(is_kinds(job, kinds[::-1]), len(kinds) < 2)
                self.assertIs(is_kinds(job, kinds + (("zzz", "blue"),)), False)
        self.assertIs(is_kinds(EMPTY, ()), True)
        self.assertIs(is_kinds(JOB, ()), False)

    def test_bent_kinds(self):
        right = 0
        for job, kinds in ((LONE, ODD), (LONE, SAME), (SCRAP, (("p", "x"), ("q", "abcdefgh")))):
            for thing in bent(kinds):
                wanted = isinstance(thing, tuple) and len(thing) == 2
                if wanted:
                    wanted = all([isinstance(pair, tuple) and len(pair) == 2 for pair in thing])
                if wanted:
                    wanted = [pair[0] for pair in thing] == [pair[0] for pair in job[1]]
                    wanted = wanted and all([self.is_kind(pair[1]) for pair in thing])
                self.assertIs(is_kinds(job, thing), wanted, thing)
                right += wanted
        self.assertGreater(right, 10)

    def is_kind(self, value):
        return isinstance(value, str) and 1 <= len(value) <= 8 and set(value) <= set("abcdefghijklmnopqrstuvwxyz")

    def test_strange_things_and_lists(self):
        for thing in STRANGE + (True, (True,), ((True, True), (1, 2)), (("c", "blue"), ("d", None)),
                                (("c", "blue"), ("d", 1)), (("c", "blue"), ("d", ("red",))), ("cb", "dr")):
            self.assertIs(is_kinds(LONE, thing), False, thing)
            self.assertIs(is_kinds(EMPTY, thing), repr(thing) == "()", thing)
        for thing in with_one_list(ODD):
            self.assertIs(is_kinds(LONE, thing), False, thing)

    def test_a_kind_may_be_called_as_a_box(self):
        self.assertIs(is_kinds(LONE, (("c", "d"), ("d", "c"))), True)
        self.assertEqual(silent_rings(LONE, (("c", "c"), ("d", "c"))), (("c", "d"),))


class Seen(unittest.TestCase):
    def test_silent_rings(self):
        for job in SMALL + list(WIDER_JOBS) + list(GREAT_JOBS):
            for kinds in drawn_kinds(job, Random(2)):
                self.assertEqual(silent_rings(job, kinds), silent_of(job, kinds))
        for kinds in all_kinds(ONE_ROOM[4]):
            self.assertEqual(silent_rings(ONE_ROOM[4], kinds), silent_of(ONE_ROOM[4], kinds))

    def test_sights_and_moments_of_any_plans(self):
        draw, alike = Random(3), 0
        for job in [job for job in SMALL + [JOB, FAR] if start_of(job) in far_from_end(job)]:
            for kinds in drawn_kinds(job, draw):
                plan = walked_plan(job, draw, draw.randint(0, 5))
                pairs = alike_by(job, kinds, plan)
                self.assertEqual(sights_by(job, kinds, plan), shown_by(job, kinds, plan))
                self.assertEqual(first_alike_by(job, kinds, plan), min(pairs, default=None))
                self.assertIs(is_readable_by(job, kinds, plan), not pairs)
                alike += bool(pairs)
        self.assertGreater(alike, 100)

    def test_the_least_pair_is_not_that_with_the_least_other(self):
        job, walk = (("a", "b", "t"), (("a", "b"),)), (("a", "b"), ("b", "t"), ("t", "b"), ("b", "a"), ("a", "b"))
        self.assertEqual(alike_by(job, (("a", "x"),), walk), [(0, 4), (1, 3), (1, 5), (3, 5)])
        self.assertEqual(first_alike_by(job, (("a", "x"),), walk), (0, 4))

    def test_thrown_boxes_are_seen_no_more(self):
        self.assertEqual(sights_by(SCRAP, (("p", "x"), ("q", "y")), (("q", None), ("p", "q"))),
                         ((("p", "x"), ("q", "y")), (("p", "x"),), (("q", "x"),)))
        self.assertEqual(sights_by(EMPTY, (), ()), ((),))

    def test_alike_exactly_if_whole_silent_rings_are_made_between(self):
        found = 0
        for job in [job for job in SMALL + [LONE, JOB] + list(ONE_ROOM[4:5]) if rings_of(job)]:
            for plan in fewest_plans(job)[::3]:
                stands = stands_behind(job, plan)
                for kinds in all_kinds(job, ("blue", "red")):
                    pairs = alike_by(job, kinds, plan)
                    self.assertEqual(pairs, self.whole(job, kinds, stands, plan), (job, kinds, plan))
                    self.assertEqual(first_alike_by(job, kinds, plan), min(pairs, default=None))
                    found += len(pairs)
        self.assertGreater(found, 100)

    def whole(self, job, kinds, stands, plan):
        """The pairs of moments between which all MOVES are those of silent RINGS, each of them whole."""
        movers = [dict(stands[at])[move[0]] for at, move in enumerate(plan)]
        many = {row: len([box for box in movers if box in row]) for row in silent_of(job, kinds)}
        found = []
        for one, other in combinations(range(len(stands)), 2):
            part = movers[one:other]
            inside = [row for row in many if any(box in row for box in part)]
            if all(any(box in row for row in inside) for box in part):
                if all(len([box for box in part if box in row]) == many[row] for row in inside):
                    found.append((one, other))
        return found


class HasRuleBy(unittest.TestCase):
    def test_all_kinds_of_small_jobs_against_a_search_through_all_plans(self):
        found = []
        for job in SMALL + [LONE, STUCK]:
            for kinds in all_kinds(job) if rings_of(job) else drawn_kinds(job, Random(5)):
                wanted = told(job, kinds)
                self.assertIs(has_rule_by(job, kinds), wanted, (job, kinds))
                if wanted is not None:
                    self.assertIs(some_plan_is_readable(job, kinds_at(kinds)), wanted, (job, kinds))
                found.append(wanted)
        for wanted in (True, False, None):
            self.assertGreater(found.count(wanted), 100)

    def test_wider_jobs(self):
        found = []
        for job in WIDER_JOBS + ONE_ROOM + MORE_ROOM:
            for kinds in drawn_kinds(job, Random(7)):
                wanted = told(job, kinds)
                self.assertIs(has_rule_by(job, kinds), wanted, (job, kinds))
                # That there is one is shown by a_plan_by, below.
                if wanted is False:
                    self.assertIs(some_plan_is_readable(job, kinds_at(kinds)), False, (job, kinds))
                found.append(wanted)
        for wanted in (True, False, None):
            self.assertGreater(found.count(wanted), 7)

    def test_great_jobs(self):
        found = []
        for job in GREAT_JOBS:
            for kinds in drawn_kinds(job, Random(9)):
                self.assertIs(has_rule_by(job, kinds), told(job, kinds))
                found.append(told(job, kinds))
        self.assertEqual(set(found), {True, False, None})

    def test_none_whether_or_not_there_is_one(self):
        job = ("a", "b", "c", "d"), (("a", "b"), ("c", "d"), ("d", "c"))
        self.assertIsNone(has_rule_by(job, (("a", "red"), ("c", "blue"), ("d", "blue"))))
        self.assertIs(has_rule_by(job, (("a", "blue"), ("c", "blue"), ("d", "blue"))), False)
        self.assertIs(has_rule_by(job, (("a", "blue"), ("c", "blue"), ("d", "red"))), True)
        # A box that stays counts among all boxes; a second free place is enough.
        stays = job_of((2,), ((1, True),), 1, 0, names="abcd")
        self.assertIs(has_rule_by(stays, tuple((box, "x") for box, _ in stays[1])), False)
        self.assertIsNone(has_rule_by(stays, tuple((box, "y" if box == end else "x") for box, end in stays[1])))
        more = (("a", "b", "c", "d", "t"), job[1])
        self.assertIs(has_rule_by(more, (("a", "red"), ("c", "blue"), ("d", "blue"))), True)


class APlanBy(unittest.TestCase):
    def check(self, job, kinds):
        if told(job, kinds) is not True:
            with self.assertRaises(NoRule):
                a_plan_by(job, kinds)
            return False
        plan = a_plan_by(job, kinds)
        self.assertIs(is_fewest(job, plan), True)
        self.assertEqual(len(plan), len([pair for pair in job[1] if pair[0] != pair[1]]) + len(rings_of(job)))
        shown = shown_by(job, kinds, plan)
        self.assertEqual(len(set(shown)), len(shown), (job, kinds, plan))
        self.assertIs(is_readable_by(job, kinds, plan), True)
        rule = rule_by(job, kinds, plan)
        self.assertEqual(rule, tuple(sorted(zip(shown, plan))))
        self.assertIs(is_rule_by(job, kinds, rule), True)
        return True

    def test_small_jobs(self):
        for job in SMALL + [LONE, STUCK]:
            for kinds in all_kinds(job, ("blue", "red")):
                self.check(job, kinds)

    def test_wider_jobs(self):
        by_kinds = 0
        for job in WIDER_JOBS + ONE_ROOM + MORE_ROOM:
            for kinds in drawn_kinds(job, Random(11)):
                by_kinds += self.check(job, kinds) and not has_rule(job)
        for job in ONE_ROOM:
            for kinds in all_kinds(job, ("blue", "red")):
                by_kinds += self.check(job, kinds)
        self.assertGreater(by_kinds, 100)

    def test_great_jobs(self):
        by_kinds = 0
        for job in GREAT_JOBS + (job_of((2, 3, 2, 4), (), 28, 1), job_of((2, 3, 2, 4), ((1, True),), 28, 0),
                                 job_of((2,) * 18, ((3, True),), 1, 0), job_of((5, 5, 5), ((3, False),), 21, 0)):
            for kinds in drawn_kinds(job, Random(13)):
                by_kinds += self.check(job, kinds) and not has_rule(job)
        self.assertGreater(by_kinds, 20)

    def test_each_one_of_several_rings_is_the_only_one_that_is_not_silent(self):
        for job in (job_of((2,) * 19, (), 1, 1), job_of((3,) * 12, ((2, True),), 2, 0),
                    job_of((3,) * 12, ((2, False),), 1, 0)):
            for row in rings_of(job):
                self.check(job, tuple((box, "odd" if box == row[1] else "even") for box, _ in job[1]))

    def test_where_the_one_free_place_comes_by_throwing_away(self):
        job = job_of((2, 2), ((1, True),), 0, 0, names="abcde")
        self.assertEqual(job, (("a", "b", "c", "d", "e"), (("a", "b"), ("b", "a"), ("c", "d"), ("d", "c"),
                                                           ("e", None))))
        plan = a_plan_by(job, (("a", "x"), ("b", "x"), ("c", "x"), ("d", "y"), ("e", "x")))
        self.assertEqual(plan[0], ("e", None))
        self.assertEqual(len(plan), 7)

    def test_no_rule(self):
        for job, kinds in ((LONE, SAME), (STUCK, ODD), (STUCK, SAME),
                           ((("a", "b", "c", "d"), JOB[1]), (("a", "red"),) + SAME)):
            with self.assertRaises(NoRule):
                a_plan_by(job, kinds)


class RuleBy(unittest.TestCase):
    def test_plans_that_are_readable_by_kinds_and_those_that_are_not(self):
        draw, found = Random(15), []
        for job in [job for job in SMALL[::2] + [JOB, FAR, LONE] if start_of(job) in far_from_end(job)]:
            for kinds in drawn_kinds(job, draw):
                plan = walked_plan(job, draw, draw.randint(0, 3))
                if alike_by(job, kinds, plan):
                    with self.assertRaises(NoRule):
                        rule_by(job, kinds, plan)
                else:
                    rule, shown = rule_by(job, kinds, plan), shown_by(job, kinds, plan)
                    self.assertEqual(rule, tuple(sorted(zip(shown, plan), key=lambda pair: pair[0])))
                    self.assertIs(is_rule_by(job, kinds, rule), True)
                found.append(bool(alike_by(job, kinds, plan)))
        self.assertGreater(found.count(True), 100)
        self.assertGreater(found.count(False), 100)

    def test_plans_of_great_jobs(self):
        for job in GREAT_JOBS[3:12]:
            kinds = list(drawn_kinds(job, Random(1)))[1]
            if told(job, kinds):
                plan = drawn_plan(job, Random(17))
                self.assertIs(is_rule_by(job, kinds, rule_by(job, kinds, plan)), True)

    def test_where_names_alone_do_not_tell(self):
        self.assertEqual(rule_by(LONE, ODD, TURN), RULE)
        self.assertEqual(rule_by(EMPTY, (), ()), ())
        with self.assertRaises(NoRule):
            rule_by(LONE, SAME, TURN)
        with self.assertRaises(NoRule):
            rule_by(LONE, ODD, (("c", "t"), ("t", "c")) + TURN)


class IsRuleBy(unittest.TestCase):
    def test_every_rule_of_two_pairs(self):
        found = []
        for job in ((("a", "b"), (("a", "b"),)), SCRAP, (("a", "b"), (("a", None), ("b", None)))):
            for kinds in all_kinds(job, ("x", "y")):
                show = kinds_at(kinds)
                for rule in self.small_rules(job, 2):
                    how = follow(job, rule, show)[2]
                    self.assertIs(is_rule_by(job, kinds, rule), how == "right", (job, kinds, rule))
                    found.append(how)
        self.assertEqual(set(found), {"right", "elsewhere", "stuck", "round"})

    def small_rules(self, job, most):
        seen = sorted(tuple(zip(some, row)) for many in range(len(job[0]) + 1) for some in combinations(job[0], many)
                      for row in product(("x", "y"), repeat=many))
        ways = [way for way in product(job[0], job[0] + (None,)) if way[0] != way[1]]
        for many in range(most + 1):
            for some in combinations(seen, many):
                for moves in product(ways, repeat=many):
                    yield tuple(zip(some, moves))

    def test_bent_rules(self):
        for kinds in (ODD, SAME):
            right = 0
            for thing in bent(RULE):
                wanted = is_rule_of_lone(thing) and follow(LONE, thing, kinds_at(kinds))[2] == "right"
                self.assertIs(is_rule_by(LONE, kinds, thing), wanted, thing)
                right += wanted
            self.assertEqual(right > 0, kinds == ODD)

    def test_changed_rules(self):
        for at in range(3):
            self.assertIs(is_rule_by(LONE, ODD, RULE[:at] + RULE[at + 1:]), False)
            seen, move = RULE[at]
            for other in (("c", "d"), ("t", "t"), ("d", "t"), ("t", "c"), (move[0], None), (move[0], "x"), ("x", "c")):
                self.assertIs(is_rule_by(LONE, ODD, RULE[:at] + ((seen, other),) + RULE[at + 1:]), False)
        self.assertIs(is_rule_by(LONE, ODD, RULE[::-1]), False)
        self.assertIs(is_rule_by(LONE, ODD, RULE[:1] + RULE), False)
        self.assertIs(is_rule_by(LONE, (("c", "red"), ("d", "blue")), RULE), False)

    def test_pairs_that_are_never_seen(self):
        rows = ((((("c", "blue"),), ("c", None)), True), (((), ("t", "t")), True),
                (((("t", "nowhere"),), ("d", "c")), True),
                (((("x", "blue"),), ("c", "t")), False), (((("c", "blue"),), ("c", "x")), False),
                (((("c", "blue"),), ("x", None)), False), (((("c", "Blue"),), ("c", "t")), False),
                (((("c", None),), ("c", "t")), False), (((("d", "red"), ("c", "blue")), ("c", "t")), False),
                (((("c", "blue"), ("c", "red")), ("c", "t")), False), ((("c",), ("c", "t")), False),
                (((("c", "blue"), ("c", "blue")), ("c", "t")), False), (((("c", "red", "x"),), ("c", "t")), False))
        for pair, wanted in rows:
            for at in range(4):
                rule = RULE[:at] + (pair,) + RULE[at:]
                self.assertIs(is_rule_by(LONE, ODD, rule), wanted and is_ordered(rule), rule)
            if wanted:
                self.assertIn(True, [is_rule_by(LONE, ODD, RULE[:at] + (pair,) + RULE[at:]) for at in range(4)])

    def test_lists_are_no_tuples(self):
        for thing in with_one_list(RULE):
            self.assertIs(is_rule_by(LONE, ODD, thing), False, thing)
        self.assertIs(is_rule_by(as_lists(LONE), as_lists(ODD), RULE), True)
        for thing in STRANGE:
            self.assertIs(is_rule_by(LONE, ODD, thing), False, thing)
            self.assertIs(is_rule_by(EMPTY, (), thing), repr(thing) == "()", thing)
            self.assertIs(is_rule_by(LONE, ODD, RULE + (thing,)), False, thing)

    def test_the_rule_of_no_pair(self):
        self.assertIs(is_rule_by(LONE, ODD, ()), False)
        self.assertIs(is_rule_by((("a",), (("a", "a"),)), (("a", "x"),), ()), True)

    def test_round_where_the_stand_is_another_one(self):
        rule = tuple(sorted(zip(shown_by(LONE, SAME, TURN), TURN)))
        self.assertEqual(follow(LONE, rule, kinds_at(SAME))[2], "round")
        self.assertIs(is_rule_by(LONE, SAME, rule), False)

    def test_beyond_the_bounds(self):
        names = tuple(one + other + "x" for one in "abcdefghij" for other in "abcdefghijkl")
        job, kinds = (names, tuple((name, None) for name in names)), tuple((name, "k") for name in names)
        rule = tuple((kinds[at:], (names[at], None)) for at in range(120))
        self.assertIs(is_rule_by(job, kinds, rule), True)
        self.assertIs(is_rule_by(job, kinds, rule[:-1]), False)
        self.assertIs(is_kinds(job, kinds), True)


class Painting(unittest.TestCase):
    def test_painted(self):
        for job in SMALL + list(GREAT_JOBS):
            for box, _ in job[1]:
                wanted = tuple((other, "paint" if other == box else "plain") for other, _ in job[1])
                self.assertEqual(painted(job, box), wanted)
                self.assertIs(is_kinds(job, painted(job, box)), True)

    def test_no_such_box(self):
        for job, name in ((JOB, "b"), (JOB, "zz"), (EMPTY, "a"), (LONE, "t")):
            with self.assertRaises(NoName) as held:
                painted(job, name)
            self.assertEqual(held.exception.name, name)

    def test_to_paint_small_jobs_by_what_it_means(self):
        found = []
        for job in SMALL + list(WIDER_JOBS) + list(ONE_ROOM) + list(MORE_ROOM) + [LONE, STUCK, JOB]:
            if start_of(job) not in far_from_end(job):
                with self.assertRaises(NoPlan):
                    to_paint(job)
                found.append("no plan")
            elif has_rule(job):
                self.assertIsNone(to_paint(job))
                found.append("no need")
            else:
                enough = [box for row in rings_of(job) for box in row if has_rule_by(job, painted(job, box))]
                self.assertEqual(to_paint(job), min(enough), job)
                self.assertIs(is_readable_by(job, painted(job, min(enough)),
                                             a_plan_by(job, painted(job, min(enough)))), True)
                found.append("paint")
        for word in ("no plan", "no need", "paint"):
            self.assertGreater(found.count(word), 15)

    def test_great_jobs(self):
        found = 0
        for job in GREAT_JOBS:
            if rings_of(job) and room_of(job) == 0:
                with self.assertRaises(NoPlan):
                    to_paint(job)
            elif has_rule(job):
                self.assertIsNone(to_paint(job))
            else:
                box = min(box for row in rings_of(job) for box in row)
                self.assertEqual(to_paint(job), box)
                kinds = painted(job, box)
                self.assertIs(is_rule_by(job, kinds, rule_by(job, kinds, a_plan_by(job, kinds))), True)
                found += 1
        self.assertGreater(found, 2)

    def test_a_box_of_a_ring_though_a_lesser_one_is_in_none(self):
        self.assertEqual(to_paint((("a", "b", "c", "d"), JOB[1])), "c")
        self.assertIsNone(to_paint(JOB))
        self.assertIsNone(to_paint(EMPTY))
        self.assertEqual(to_paint(LONE), "c")
        self.assertIs(is_fewest(JOB, PLAN), True)


def is_ordered(rule):
    try:
        return all(low[0] < high[0] for low, high in zip(rule, rule[1:]))
    except TypeError:
        return False


def is_rule_of_lone(thing):
    """Whether thing is a RULE BY KINDS for LONE, right or not, by the words of the document."""
    if not isinstance(thing, tuple) or not all([is_told(pair) for pair in thing]):
        return False
    return is_ordered(thing)


def is_told(pair):
    if not isinstance(pair, tuple) or [isinstance(part, tuple) for part in pair] != [True, True]:
        return False
    seen, move = pair
    for spot in seen:
        if not isinstance(spot, tuple) or len(spot) != 2 or spot[0] not in LONE[0] or not IsKinds().is_kind(spot[1]):
            return False
    if [spot[0] for spot in seen] != sorted({spot[0] for spot in seen}):
        return False
    return len(move) == 2 and move[0] in LONE[0] and (move[1] is None or move[1] in LONE[0])


if __name__ == "__main__":
    unittest.main()
