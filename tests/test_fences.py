"""Fences ([10])."""

import unittest
from itertools import combinations
from random import Random

from namesalone.errors import NoRule
from namesalone.fences import (a_fenced, fences_for, fewest_fences, is_fenced, is_tellable, lasting, moves_in,
                               stands_by, told_alike)
from namesalone.fewest import can_be_done, is_fewest
from namesalone.moves import is_plan
from namesalone.rules import has_rule
from tests.support import (EMPTY, FAR, GREAT_JOBS, JOB, LONE, PLAN, SCRAP, STRANGE, STUCK, WIDER_JOBS, as_lists, bent,
                           drawn_plan, far_from_end, fewest_plans, full_at, job_of, moves_from, rings_of,
                           shows_no_sight_twice, small_jobs, stands_behind, start_of, walked_plan)

STEPS = (("c", "t"), "|", ("a", "b"), "|", ("d", "c"), ("t", "d"))
LESS = STEPS[:3] + STEPS[4:]
BAD = (("c", "t"), ("d", "c"), ("t", "d"), ("a", "b"))
SEARCHED = [job for job in list(small_jobs()) + [JOB, FAR, SCRAP, LONE] if start_of(job) in far_from_end(job)]
WIDER = [job for job in WIDER_JOBS if start_of(job) in far_from_end(job)]


def parts_of(steps):
    """The MOVES ahead of the first fence, between each two, and behind the last one."""
    parts = [[]]
    for step in steps:
        if step == "|":
            parts.append([])
        else:
            parts[-1].append(step)
    return parts


def made(job, stand, moves):
    """The STAND behind these MOVES, None if one is not possible then."""
    for move in moves:
        stand = dict(moves_from(job, stand)).get(move)
        if stand is None:
            return None
    return stand


def found_lasting(job, steps):
    """By the words of the document, part by part, each one that is possible."""
    found, stand = set(), start_of(job)
    for part in parts_of(steps):
        for many in range(len(part) + 1):
            found |= {made(job, stand, some) for some in combinations(part, many)}
        stand = made(job, stand, part)
    return sorted(found - {None})


def found_alike(job, steps):
    """The least pair, by the words of the document."""
    pairs = combinations(found_lasting(job, steps), 2)
    return min([(one, other) for one, other in pairs if full_at(one) == full_at(other)], default=None)


def fenced(plan, spots):
    """The PLAN with a fence behind so many MOVES, for each of the spots."""
    steps = ()
    for at in range(len(plan) + 1):
        steps += ("|",) * list(spots).count(at) + plan[at:at + 1]
    return steps


def sets_of_spots(plan, most=None):
    """All sets of how many MOVES are ahead of a fence, those of few ones first, then ascending."""
    for many in range(len(plan) + 2 if most is None else most + 1):
        yield from combinations(range(len(plan) + 1), many)


def drawn_steps():
    """JOBS and FENCED MOVES of all kinds, fences beside each other, at the begin and at the end too."""
    draw = Random(29)
    for job in SEARCHED[::2] + WIDER + [JOB]:
        for plan in (drawn_plan(job, draw), walked_plan(job, draw, 2), walked_plan(job, draw, 3)):
            if len(plan) <= 9:
                spots = [draw.randint(0, len(plan)) for _ in range(draw.randint(0, 4))]
                yield job, fenced(plan, spots)


class Lasting(unittest.TestCase):
    def test_against_every_part(self):
        alike = 0
        for job, steps in drawn_steps():
            wanted = found_lasting(job, steps)
            self.assertEqual(lasting(job, steps), wanted, (job, steps))
            pair = found_alike(job, steps)
            self.assertEqual(told_alike(job, steps), pair, (job, steps))
            self.assertIs(is_tellable(job, steps), pair is None)
            alike += pair is not None
        self.assertGreater(alike, 20)

    def test_stands_by(self):
        for job, steps in drawn_steps():
            wanted = found_lasting(job, steps)
            for many in range(len(job[0]) + 1):
                for sight in combinations(job[0], many):
                    self.assertEqual(stands_by(job, steps, sight), [own for own in wanted if full_at(own) == sight])
        self.assertEqual(stands_by(JOB, STEPS, ("zz",)), [])
        self.assertEqual(stands_by(JOB, LESS, ("a", "c", "d")),
                         [(("a", "a"), ("c", "c"), ("d", "d")), (("a", "a"), ("c", "d"), ("d", "c"))])

    def test_fences_that_tell_nothing(self):
        for job, steps in ((JOB, STEPS), (JOB, PLAN), (SCRAP, (("q", None), "|", ("p", "q"))), (JOB, LESS)):
            wanted = lasting(job, steps)
            self.assertEqual(lasting(job, ("|",) + steps), wanted)
            self.assertEqual(lasting(job, steps + ("|", "|")), wanted)
            twice = tuple(own for step in steps for own in ((step, step) if step == "|" else (step,)))
            self.assertEqual(lasting(job, twice), wanted)

    def test_twenty_fences(self):
        steps = ("|",) * 5 + PLAN[:1] + ("|",) * 5 + PLAN[1:2] + ("|",) * 6 + PLAN[2:] + ("|",) * 4
        self.assertEqual(steps.count("|"), 20)
        self.assertEqual(lasting(JOB, steps), lasting(JOB, STEPS))
        self.assertIs(is_tellable(JOB, steps), True)

    def test_eighty_moves(self):
        plan = (("c", "t"), ("t", "c")) * 38 + PLAN
        steps = fenced(plan, range(4, 81, 4))
        self.assertEqual((len(moves_in(steps)), steps.count("|")), (80, 20))
        self.assertEqual(lasting(JOB, steps), found_lasting(JOB, steps))
        self.assertEqual(told_alike(JOB, steps), found_alike(JOB, steps))
        self.assertIsNone(fences_for(JOB, plan))

    def test_a_fence_between_each_two(self):
        for job in SEARCHED[::3] + WIDER:
            plan = walked_plan(job, Random(len(job[1])), 4)
            steps = fenced(plan, range(len(plan)))
            self.assertEqual(lasting(job, steps), sorted(set(stands_behind(job, plan))))
            if is_fewest(job, plan):
                self.assertIs(is_tellable(job, steps), shows_no_sight_twice(job, plan))
            elif shows_no_sight_twice(job, plan):
                self.assertIs(is_tellable(job, steps), True)

    def test_a_part_must_be_possible_move_by_move(self):
        job = (("a", "b", "c"), (("a", "b"), ("b", "c")))
        self.assertEqual(lasting(job, (("b", "c"), ("a", "b"))), sorted(
            [(("a", "a"), ("b", "b")), (("a", "a"), ("c", "b")), (("b", "a"), ("c", "b"))]))
        self.assertEqual(lasting(SCRAP, (("q", None), ("p", "q"))), sorted(
            [(("p", "p"), ("q", "q")), (("p", "p"),), (("q", "p"),)]))

    def test_a_move_may_take_another_box_than_in_the_plan(self):
        # If a is not put aside, the second MOVE of t is not possible; but b may go where a went.
        job = (("a", "b", "t", "u"), (("a", "a"), ("b", "b")))
        plan = (("a", "t"), ("b", "a"), ("a", "u"), ("t", "a"), ("u", "b"))
        self.assertIn((("b", "b"), ("u", "a")), lasting(job, plan))
        self.assertEqual(lasting(job, plan), found_lasting(job, plan))

    def test_without_moves(self):
        for steps in ((), ("|",), ("|",) * 20):
            self.assertEqual(lasting(EMPTY, steps), [()])
            self.assertEqual(stands_by(EMPTY, steps, ()), [()])
            self.assertIsNone(told_alike(EMPTY, steps))
            self.assertIs(is_tellable(EMPTY, steps), True)
        job = (("a", "b"), (("a", "a"),))
        self.assertEqual(lasting(job, ("|",)), [(("a", "a"),)])

    def test_eight_moves_at_once(self):
        job = job_of((), ((1, False),) * 8, 0, 0, names="abcdefghijklmnop")
        plan = drawn_plan(job, Random(31))
        self.assertEqual(len(plan), 8)
        self.assertEqual(len(lasting(job, plan)), 2 ** 8)
        self.assertEqual(lasting(job, plan), found_lasting(job, plan))
        self.assertIs(is_tellable(job, plan), True)
        self.assertEqual(len(lasting(job, plan[:4] + ("|",) + plan[4:])), 2 ** 4 + 2 ** 4 - 1)


class IsFenced(unittest.TestCase):
    def test_all_places_of_fences(self):
        for spots in list(sets_of_spots(PLAN)) + [(0, 0), (4, 4, 4), (2, 2), (0,) * 50]:
            steps = fenced(PLAN, spots)
            self.assertIs(is_fenced(JOB, steps), True, steps)
            self.assertEqual(moves_in(steps), PLAN)
            self.assertIs(is_fenced(JOB, list(steps)), False)
            self.assertEqual(moves_in(as_lists(steps)), PLAN)
            self.assertIs(is_fenced(JOB, steps[::-1]), False)

    def test_no_plan(self):
        for steps in (STEPS[:5], STEPS[1:], ("|",), (), STEPS + (("b", "a"),), STEPS + (("a", "b"),), (("a", "b"),)):
            self.assertIs(is_fenced(JOB, steps), False, steps)
        self.assertIs(is_fenced(EMPTY, ("|", "|")), True)
        self.assertIs(is_fenced(EMPTY, ()), True)
        self.assertIs(is_fenced(STUCK, ("|",)), False)

    def test_bent_steps(self):
        right = 0
        for thing in bent(STEPS):
            wanted = isinstance(thing, tuple) and is_plan(JOB, tuple(step for step in thing if step != "|"))
            self.assertIs(is_fenced(JOB, thing), wanted, thing)
            right += wanted
        self.assertGreater(right, 3)

    def test_strange_things(self):
        for thing in STRANGE + ("|", ["|"], ("||",), ("| ",), (("|",),), (["|"],), ("|", True), ("|", None), ("|", ())):
            self.assertIs(is_fenced(JOB, thing), False, thing)
            self.assertIs(is_fenced(EMPTY, thing), repr(thing) == "()", thing)
            self.assertIs(is_fenced(JOB, STEPS + (thing,)), thing == "|", thing)

    def test_beyond_the_bounds(self):
        turn = (("c", "t"), "|", ("t", "c"), "|", "|") * 100
        self.assertIs(is_fenced(JOB, turn + STEPS), True)
        self.assertIs(is_fenced(JOB, turn), False)
        self.assertEqual(moves_in(turn + STEPS), (("c", "t"), ("t", "c")) * 100 + PLAN)
        self.assertEqual(moves_in(("|",) * 300), ())
        self.assertEqual(moves_in(()), ())
        self.assertEqual(moves_in((("a", None), "|", ("zz", "y"))), (("a", None), ("zz", "y")))


class FewestFences(unittest.TestCase):
    def test_against_all_fewest_plans_with_every_set_of_fences(self):
        found = []
        for job in SEARCHED + WIDER[:5]:
            plans = fewest_plans(job)[:60]
            wanted = min([len(spots) for plan in plans for spots in self.tellable(job, plan)], default=None)
            self.assertEqual(fewest_fences(job), wanted, job)
            found.append(wanted)
            self.check(job, plans)
        self.assertEqual(set(found), {0, 2, None})

    def tellable(self, job, plan):
        """The first one of the sets of fences that make the PLAN tellable, if there is one."""
        for spots in sets_of_spots(plan):
            if found_alike(job, fenced(plan, spots)) is None:
                yield spots
                return

    def check(self, job, plans):
        many = fewest_fences(job)
        if many is None:
            with self.assertRaises(NoRule):
                a_fenced(job)
        else:
            steps = a_fenced(job)
            self.assertEqual(steps.count("|"), many)
            self.assertIs(is_fenced(job, steps), True)
            self.assertIs(is_fewest(job, moves_in(steps)), True)
            self.assertEqual(len(moves_in(steps)), len(plans[0]))
            self.assertIsNone(found_alike(job, steps))
            self.assertIs(is_tellable(job, steps), True)

    def test_wider_jobs(self):
        done = 0
        for job in WIDER:
            wanted = None
            if not rings_of(job):
                wanted = 0
            elif has_rule(job):
                wanted = 2
            self.assertEqual(fewest_fences(job), wanted)
            self.check(job, [drawn_plan(job, Random(1))])
            done += wanted == 2
        self.assertGreater(done, 8)

    def test_never_one_with_rings_and_none_without(self):
        draw, ringed, ringless = Random(37), 0, 0
        for job in WIDER + [JOB, FAR]:
            for _ in range(4):
                plan = drawn_plan(job, draw)
                if rings_of(job):
                    for spots in sets_of_spots(plan, 1):
                        self.assertIs(is_tellable(job, fenced(plan, spots)), False, (job, plan, spots))
                    ringed += 1
                else:
                    self.assertIs(is_tellable(job, plan), True)
                    ringless += 1
        self.assertGreater(ringed, 20)
        self.assertGreater(ringless, 3)

    def test_without_a_plan(self):
        for job in (STUCK, GREAT_JOBS[0], GREAT_JOBS[13], (("a", "b", "c"), (("a", "b"), ("b", "a"), ("c", "c")))):
            self.assertIs(can_be_done(job), False)
            self.assertIsNone(fewest_fences(job))
            with self.assertRaises(NoRule):
                a_fenced(job)

    def test_great_jobs(self):
        done = 0
        for job in GREAT_JOBS + (job_of((2, 3), ((1, True),), 33, 1), job_of((2,) * 18, ((2, True), (2, True)), 0, 0),
                                 job_of((5, 3), ((2, True), (3, True)), 27, 0)):
            if has_rule(job):
                steps = a_fenced(job)
                self.assertIs(is_fenced(job, steps), True)
                self.assertIs(is_fewest(job, moves_in(steps)), True)
                self.assertEqual(steps.count("|"), fewest_fences(job))
                self.assertEqual(steps.count("|"), 2 if rings_of(job) else 0)
                if rings_of(job) and len(job[0]) - len(job[1]) + list(dict(job[1]).values()).count(None) < 4:
                    self.assertIs(is_tellable(job, steps), True)
                    done += 1
            else:
                self.assertIsNone(fewest_fences(job))
                with self.assertRaises(NoRule):
                    a_fenced(job)
        self.assertGreater(done, 5)


class FencesFor(unittest.TestCase):
    def check(self, job, plan):
        wanted = None
        if shows_no_sight_twice(job, plan):
            wanted = [spots for spots in sets_of_spots(plan) if found_alike(job, fenced(plan, spots)) is None][0]
        self.assertEqual(fences_for(job, plan), wanted, (job, plan))
        return wanted

    def test_against_all_sets_of_fences(self):
        draw, found = Random(41), []
        for job in SEARCHED[::4] + WIDER[:6]:
            for plan in (walked_plan(job, draw, 0), walked_plan(job, draw, 2), walked_plan(job, draw, 4)):
                if len(plan) < 6:
                    found.append(self.check(job, plan))
        self.assertGreater(found.count(None), 10)
        self.assertEqual({0, 1, 2} - {len(spots) for spots in found if spots is not None}, set())

    def test_fewest_plans(self):
        for job in (JOB, LONE, WIDER[2], (("a", "b", "c", "d"), (("a", "b"), ("b", "a"), ("d", None)))):
            for plan in fewest_plans(job)[:20]:
                if len(plan) < 6:
                    self.check(job, plan)

    def test_of_several_sets_the_least(self):
        rows = (
            ((("a", "b", "c"), (("a", "b"), ("b", None), ("c", None))),
             (("c", None), ("a", "c"), ("b", None), ("c", "b")), [(1,), (2,), (3,)]),
            ((("a", "b", "c", "d"), (("a", None), ("b", "a"), ("c", "b"))),
             (("b", "d"), ("a", "b"), ("b", None), ("c", "b"), ("d", "a")), [(3,), (4,)]),
            ((("a", "b", "c", "d"), (("b", "d"), ("c", None), ("d", "c"))),
             (("b", "a"), ("d", "b"), ("c", None), ("b", "c"), ("a", "d")), [(1, 3), (1, 4), (2, 3), (2, 4), (3, 4)]),
        )
        for job, plan, wanted in rows:
            many = len(wanted[0])
            found = [spots for spots in sets_of_spots(plan, many) if found_alike(job, fenced(plan, spots)) is None]
            self.assertEqual(found, wanted)
            self.assertEqual(fences_for(job, plan), wanted[0])

    def test_seven_moves(self):
        job = job_of((2, 2), ((1, False),), 0, 1, names="abcdefghij")
        plan = moves_in(a_fenced(job))
        self.assertEqual(len(plan), 7)
        self.assertEqual(fences_for(job, plan), self.check(job, plan))
        self.assertEqual(len(fences_for(job, plan)), 2)

    def test_one_that_is_not_readable_though_tellable(self):
        job = (("a", "t"), (("a", "a"),))
        plan = (("a", "t"), ("t", "a"))
        self.assertIs(is_tellable(job, plan), True)
        self.assertIsNone(fences_for(job, plan))
        self.assertIsNone(fences_for(JOB, BAD))
        self.assertIsNone(fences_for(LONE, BAD[:3]))

    def test_no_fence_is_needed(self):
        self.assertEqual(fences_for(EMPTY, ()), ())
        self.assertEqual(fences_for((("a", "b"), (("b", "b"),)), ()), ())
        self.assertEqual(fences_for(SCRAP, (("q", None), ("p", "q"))), ())
        self.assertEqual(fences_for((("a", "t"), (("a", "t"),)), (("a", "t"),)), ())


if __name__ == "__main__":
    unittest.main()
