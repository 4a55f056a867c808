"""Rules ([8])."""

import unittest
from itertools import combinations, product
from random import Random

from namesalone.errors import NoRule
from namesalone.fewest import can_be_done
from namesalone.jobs import chains, free_places, rings, thrown, with_places
from namesalone.rules import (a_rule, followed, has_rule, is_rule, move_at, places_needed, rule_of, seen_at, unseen,
                              why_none)
from tests.support import (EMPTY, FAR, GREAT_JOBS, JOB, LONE, PLAN, SCRAP, STRANGE, STUCK, WIDER_JOBS, as_lists, bent,
                           end_of, far_from_end, follow, full_at, job_of, shows_no_sight_twice, sights_shown,
                           small_jobs, some_plan_is_readable, start_of, walked_plan)

RULE = ((("a", "c", "d"), ("c", "t")), (("a", "d", "t"), ("a", "b")), (("b", "c", "t"), ("t", "d")),
        (("b", "d", "t"), ("d", "c")))
ONE = (("a", "b"), (("a", "b"),))
SEARCHED = list(small_jobs()) + list(WIDER_JOBS) + [JOB, FAR]


def small_rules(job, most):
    """Every RULE for the JOB of at most so many pairs."""
    found = [some for many in range(len(job[0]) + 1) for some in combinations(job[0], many)]
    ways = list(product(job[0], job[0] + (None,)))
    for many in range(most + 1):
        for some in combinations(sorted(found), many):
            for moves in product(ways, repeat=many):
                yield tuple(zip(some, moves))


def walk_of_eighty():
    """A JOB of 40 places and a readable PLAN of 80 MOVES: one box walks, another one tells how often it did."""
    row, other = ["a" + sign for sign in "abcdefghijklmnopqrst"], ["b" + sign for sign in "abcdefghijklmnopqrst"]
    plan, at, steps = [], 0, 0
    while len(plan) < 80:
        if len(plan) % 20 == 19:
            plan.append((other[steps], other[steps + 1]))
            steps += 1
        else:
            to = at + (1 if steps % 2 == 0 else -1)
            plan.append((row[at], row[to]))
            at = to
    return (tuple(row + other), ((row[0], row[at]), (other[0], other[steps]))), tuple(plan)


class Whether(unittest.TestCase):
    def test_has_rule_against_a_search_through_all_plans(self):
        for job in SEARCHED:
            self.assertIs(has_rule(job), some_plan_is_readable(job), job)

    def test_why_none_in_the_stated_order(self):
        found = []
        for job in SEARCHED + list(GREAT_JOBS):
            wanted = None
            if not has_rule(job):
                wanted = "one" if chains(job) else "same"
                if not free_places(job) and not thrown(job):
                    wanted = "stuck"
            self.assertEqual(why_none(job), wanted, job)
            found.append(wanted)
        for word in ("stuck", "same", "one", None):
            self.assertGreater(found.count(word), 1)

    def test_why_none_by_what_the_words_mean(self):
        for job in SEARCHED:
            why = why_none(job)
            self.assertIs(why == "stuck", start_of(job) not in far_from_end(job))
            if why == "same":
                self.assertEqual(full_at(start_of(job)), full_at(end_of(job)))
            if why == "one":
                self.assertEqual(len(free_places(job)) + len(thrown(job)), 1)

    def test_great_jobs(self):
        for job in GREAT_JOBS:
            two = len(free_places(job)) + len(thrown(job)) >= 2
            self.assertIs(has_rule(job), not rings(job) or bool(chains(job)) and two)

    def test_places_needed_against_a_search(self):
        found = []
        for job in list(small_jobs(3)) + [STUCK, LONE, (("a", "b", "c", "d"), JOB[1]), job_of((2,), ((2, False),), 0, 0),
                                          job_of((2,), ((1, True),), 0, 0), job_of((2,), ((1, True),), 1, 0)]:
            enough = [many for many in range(3) if some_plan_is_readable(with_places(job, ("x", "y")[:many]))]
            wanted = min(enough, default=None)
            self.assertEqual(places_needed(job), wanted, job)
            found.append(wanted)
        self.assertEqual({0, 1, None}, set(found))

    def test_places_needed_of_great_jobs(self):
        for job in GREAT_JOBS:
            if has_rule(job):
                self.assertEqual(places_needed(job), 0)
            elif not chains(job):
                self.assertIsNone(places_needed(job))
            else:
                self.assertEqual(places_needed(job), 1)
                self.assertIs(has_rule(with_places(job, ("x",))), True)
        self.assertEqual(places_needed(job_of((2,) * 19, ((1, True),), 1, 0)), 1)
        self.assertEqual(places_needed(job_of((), (), 40, 0)), 0)


class ARule(unittest.TestCase):
    def check(self, job, rule, many):
        self.assertEqual(len(rule), many)
        self.assertEqual(list(rule), sorted(rule, key=lambda pair: pair[0]))
        moves, seen, how = follow(job, rule)
        self.assertEqual((len(moves), how), (many, "right"))
        self.assertEqual(sorted(seen[:-1]), [sight for sight, _ in rule])
        self.assertIs(is_rule(job, rule), True)
        self.assertEqual(followed(job, rule), (moves, "right"))
        self.assertEqual(unseen(job, rule), [])

    def test_as_few_pairs_as_the_fewest_moves(self):
        for job in SEARCHED:
            if some_plan_is_readable(job):
                self.check(job, a_rule(job), far_from_end(job)[start_of(job)])

    def test_great_jobs(self):
        ringed = 0
        for job in GREAT_JOBS + (job_of((2, 3), ((1, True),), 33, 1), job_of((5, 3), ((2, True), (3, True)), 27, 0),
                                 job_of((2,) * 18, ((1, True), (1, True)), 2, 0)):
            if has_rule(job):
                moving = sum([box != end for box, end in job[1]]) + len(rings(job))
                self.check(job, a_rule(job), moving)
                ringed += bool(rings(job))
        self.assertGreater(ringed, 7)

    def test_no_rule(self):
        for job in SEARCHED + list(GREAT_JOBS):
            if not has_rule(job):
                with self.subTest(job=job), self.assertRaises(NoRule):
                    a_rule(job)

    def test_no_rule_of_fewer_pairs(self):
        for job in (SCRAP, ONE, (("a", "b"), (("a", None), ("b", None))), (("a", "b"), (("a", None),))):
            many = len(a_rule(job))
            self.assertEqual([len(rule) for rule in small_rules(job, many) if is_rule(job, rule) and len(rule) < many], [])


class RuleOf(unittest.TestCase):
    def test_plans_that_are_readable_and_those_that_are_not(self):
        draw, longer = Random(3), 0
        for job in SEARCHED:
            far = far_from_end(job)
            if start_of(job) not in far:
                continue
            for many in (0, 1, 2, 4):
                plan = walked_plan(job, draw, many)
                if shows_no_sight_twice(job, plan):
                    rule = rule_of(job, plan)
                    wanted = dict(zip(sights_shown(job, plan), plan))
                    self.assertEqual(rule, tuple((sight, wanted[sight]) for sight in sorted(wanted)))
                    self.assertEqual(followed(job, rule), (plan, "right"))
                    self.assertIs(is_rule(job, rule), True)
                    longer += len(plan) > far[start_of(job)]
                else:
                    with self.subTest(job=job, plan=plan), self.assertRaises(NoRule):
                        rule_of(job, plan)
        self.assertGreater(longer, 20)

    def test_one_that_is_not_a_fewest_one(self):
        job = (("a", "b", "t"), (("a", "b"),))
        self.assertEqual(rule_of(job, (("a", "t"), ("t", "b"))), ((("a",), ("a", "t")), (("t",), ("t", "b"))))
        with self.assertRaises(NoRule):
            rule_of(job, (("a", "t"), ("t", "a"), ("a", "b")))
        with self.assertRaises(NoRule):
            rule_of(JOB, (("c", "t"), ("t", "c")) * 38 + PLAN)

    def test_the_plan_of_no_move(self):
        self.assertEqual(rule_of(EMPTY, ()), ())
        self.assertEqual(a_rule((("a", "b"), (("a", "a"),))), ())

    def test_eighty_moves(self):
        job, plan = walk_of_eighty()
        self.assertEqual((len(job[0]), len(plan)), (40, 80))
        rule = rule_of(job, plan)
        self.assertEqual(len(rule), 80)
        self.assertEqual(followed(job, rule), (plan, "right"))
        self.assertIs(is_rule(job, rule), True)
        self.assertIs(is_rule(job, rule[:-1]), False)
        self.assertEqual(move_at(rule, full_at(start_of(job))), plan[0])
        self.assertEqual(seen_at(job, rule, full_at(end_of(job))), 80)
        self.assertEqual(unseen(job, rule), [])


class Followed(unittest.TestCase):
    def test_every_rule_of_two_pairs(self):
        found = []
        for job in (SCRAP, ONE, EMPTY, (("a", "b"), (("a", None), ("b", None))), (("a",), (("a", None),)),
                    (("a", "b"), (("a", "b"), ("b", "a")))):
            for rule in small_rules(job, 2):
                moves, seen, how = follow(job, rule)
                self.assertEqual(followed(job, rule), (moves, how), (job, rule))
                self.assertIs(is_rule(job, rule), how == "right", (job, rule))
                self.assertEqual(unseen(job, rule), [sight for sight, _ in rule if sight not in seen])
                found.append(how)
        self.assertEqual(set(found), {"right", "elsewhere", "stuck", "round"})

    def test_drawn_rules(self):
        draw, found = Random(5), []
        for job in SEARCHED[::5] + [JOB, LONE]:
            sights = [some for many in range(len(job[0]) + 1) for some in combinations(job[0], many)]
            ways = list(product(job[0], job[0] + (None,)))
            for _ in range(8):
                # MOVES are drawn that can be made by what is full, so that many are made.
                told = {}
                for sight in draw.sample(sights, draw.randint(0, len(sights))):
                    some = [way for way in ways if way[0] in sight and way[1] not in sight]
                    told[sight] = draw.choice(some if some and draw.random() < 0.9 else ways)
                rule = tuple((sight, told[sight]) for sight in sorted(told))
                moves, seen, how = follow(job, rule)
                self.assertEqual(followed(job, rule), (moves, how), (job, rule))
                self.assertIs(is_rule(job, rule), how == "right")
                self.assertEqual(unseen(job, rule), [sight for sight in sorted(told) if sight not in seen])
                for sight in sights + [("zz",)]:
                    wanted = seen.index(sight) if sight in seen else None
                    self.assertEqual(seen_at(job, rule, sight), wanted)
                    self.assertEqual(move_at(rule, sight), told.get(sight))
                found.append(how)
        self.assertEqual(set(found), {"right", "elsewhere", "stuck", "round"})

    def test_how_it_ends(self):
        start, aside = ("a", "c", "d"), ("a", "d", "t")
        rows = (
            (RULE, PLAN, "right"),
            (RULE[1:], (), "elsewhere"),
            (RULE[:2], (("c", "t"), ("a", "b")), "elsewhere"),
            (((start, ("c", "d")),), (), "stuck"),
            (((start, ("b", "a")),), (), "stuck"),
            (((start, ("c", "c")),), (), "stuck"),
            (((start, ("c", None)),), (), "stuck"),
            (((start, ("c", "t")), (aside, ("t", None))), (("c", "t"),), "stuck"),
            (((start, ("c", "t")), (aside, ("t", "c"))), (("c", "t"), ("t", "c")), "round"),
        )
        for rule, moves, how in rows:
            self.assertEqual(followed(JOB, rule), (moves, how), rule)
            self.assertIs(is_rule(JOB, rule), how == "right")

    def test_round_where_the_stand_is_another_one(self):
        # Behind three MOVES the SIGHT is the first one again, though c and d have changed places.
        rule = tuple(sorted(zip(sights_shown(LONE, (("c", "t"), ("d", "c"), ("t", "d"))),
                                (("c", "t"), ("d", "c"), ("t", "d")))))
        self.assertEqual(followed(LONE, rule), ((("c", "t"), ("d", "c"), ("t", "d")), "round"))
        self.assertIs(is_rule(LONE, rule), False)
        self.assertEqual(seen_at(LONE, rule, ("c", "d")), 0)
        self.assertEqual(unseen(LONE, rule), [])

    def test_round_where_each_box_is_where_it_goes(self):
        job = (("a", "b"), (("a", "a"),))
        rule = ((("a",), ("a", "b")), (("b",), ("b", "a")))
        self.assertEqual(followed(job, rule), ((("a", "b"), ("b", "a")), "round"))
        self.assertIs(is_rule(job, rule), False)

    def test_told_but_never_seen_and_seen_but_not_told(self):
        more = tuple(sorted(RULE + ((("b",), ("b", "a")), ((), ("a", None)), (("c", "d"), ("d", "d")))))
        self.assertEqual(followed(JOB, more), (PLAN, "right"))
        self.assertIs(is_rule(JOB, more), True)
        self.assertEqual(unseen(JOB, more), [(), ("b",), ("c", "d")])
        self.assertIsNone(seen_at(JOB, more, ("b",)))
        self.assertIsNone(seen_at(JOB, more, ()))
        self.assertIsNone(seen_at(JOB, RULE, ("zz",)))
        self.assertIsNone(move_at(RULE, ("b", "c", "d")))
        self.assertEqual(seen_at(JOB, RULE, ("b", "c", "d")), 4)
        self.assertIsNone(move_at(RULE, ("zz",)))
        self.assertEqual(move_at(more, ()), ("a", None))

    def test_the_rule_of_no_pair(self):
        for job in SEARCHED + list(GREAT_JOBS):
            done = all([box == end for box, end in job[1]])
            self.assertEqual(followed(job, ()), ((), "right" if done else "elsewhere"))
            self.assertIs(is_rule(job, ()), done)
            self.assertEqual(seen_at(job, (), full_at(start_of(job))), 0)
            self.assertEqual(unseen(job, ()), [])
        self.assertIsNone(move_at((), ("a",)))
        self.assertIsNone(move_at((), ()))

    def test_throwing_away(self):
        rule = ((("p", "q"), ("q", None)), (("p",), ("p", "q")))
        self.assertEqual(followed(SCRAP, tuple(sorted(rule))), ((("q", None), ("p", "q")), "right"))
        self.assertEqual(a_rule(SCRAP), tuple(sorted(rule)))
        self.assertEqual(followed(SCRAP, ((("p", "q"), ("p", None)),)), ((), "stuck"))
        self.assertEqual(followed(SCRAP, ((("p", "q"), ("q", None)),)), ((("q", None),), "elsewhere"))


class IsRule(unittest.TestCase):
    def test_bent_rules(self):
        right = 0
        for thing in bent(RULE):
            wanted = is_rule_of_job(thing) and follow(JOB, thing)[2] == "right"
            self.assertIs(is_rule(JOB, thing), wanted, thing)
            right += is_rule(JOB, thing)
        self.assertGreater(right, 0)

    def test_strange_things(self):
        for thing in STRANGE:
            self.assertIs(is_rule(JOB, thing), False, thing)
            self.assertIs(is_rule(EMPTY, thing), repr(thing) == "()", thing)
        for pair in ((("a",), ("a", "x")), (("x",), ("a", "b")), (("a",), ("x", "b")), (("a", "zz"), ("a", "b")),
                     (("b", "a"), ("a", "t")), (("a", "a"), ("a", "t")), (("a",), ("a",)), (("a",), ("a", "b", "c")),
                     (("a",), None), (("a",), (None, "a")), ("a", ("a", "b")), (("a",), "ab"), (("a",), ("a", True))):
            self.assertIs(is_rule(JOB, tuple(sorted(RULE + (pair,), key=repr))), False, pair)
            self.assertIs(is_rule(JOB, RULE + (pair,)), False, pair)
            self.assertIs(is_rule(JOB, (pair,) + RULE), False, pair)

    def test_the_order_of_the_sights(self):
        self.assertIs(is_rule(JOB, RULE[::-1]), False)
        self.assertIs(is_rule(JOB, RULE[:1] + RULE), False)
        self.assertIs(is_rule(JOB, (RULE[1], RULE[0]) + RULE[2:]), False)
        self.assertIs(is_rule(JOB, RULE + ((("c",), ("c", None)),)), True)
        self.assertIs(is_rule(JOB, ((("a", "b"), ("a", None)),) + RULE), True)
        self.assertIs(is_rule(JOB, ((("a", "b"), ("t", "t")),) + RULE), True)

    def test_lists_are_no_tuples(self):
        for at in range(len(RULE)):
            sight, move = RULE[at]
            for pair in ((list(sight), move), (sight, list(move)), [sight, move]):
                self.assertIs(is_rule(JOB, RULE[:at] + (pair,) + RULE[at + 1:]), False, pair)
        self.assertIs(is_rule(JOB, list(RULE)), False)
        self.assertIs(is_rule(as_lists(JOB), RULE), True)

    def test_beyond_the_bounds(self):
        names = tuple(one + other + "x" for one in "abcdefghij" for other in "abcdefghijkl")
        job = (names, tuple((name, None) for name in names))
        rule = tuple((names[at:], (names[at], None)) for at in range(120))
        self.assertEqual(list(rule), sorted(rule))
        self.assertIs(is_rule(job, rule), True)
        self.assertIs(is_rule(job, rule[:-1]), False)
        extra = tuple(sorted([((one, other), (one, None)) for one, other in combinations(names[:30], 2)]))
        more = tuple(sorted(rule + extra, key=lambda pair: pair[0]))
        self.assertGreater(len(more), 500)
        self.assertIs(is_rule(job, more), True)

    def test_no_rule_is_right_where_there_is_none(self):
        for job in SEARCHED:
            if can_be_done(job) and not has_rule(job):
                for rule in small_rules((job[0][:2], ()), 1):
                    self.assertIs(is_rule(job, rule), False)


def is_rule_of_job(thing):
    """Whether thing is a RULE for JOB, right or not, by the words of the document."""
    if not isinstance(thing, tuple) or not all([is_told(pair) for pair in thing]):
        return False
    told = [sight for sight, _ in thing]
    return told == sorted(set(told))


def is_told(pair):
    if not isinstance(pair, tuple) or [isinstance(part, tuple) for part in pair] != [True, True]:
        return False
    sight, move = pair
    if not all([name in JOB[0] for name in sight]) or list(sight) != sorted(set(sight)):
        return False
    return len(move) == 2 and move[0] in JOB[0] and (move[1] is None or move[1] in JOB[0])


if __name__ == "__main__":
    unittest.main()
