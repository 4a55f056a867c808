"""PLANS with as few MOVES as can be ([6])."""

import unittest
from itertools import product

from namesalone.errors import NoPlan
from namesalone.fewest import a_plan, can_be_done, fewest_moves, first_moves, how_often, is_fewest
from namesalone.jobs import chains, free_places, rings, thrown
from namesalone.moves import is_plan
from tests.support import (EMPTY, FAR, GREAT_JOBS, JOB, LONE, PLAN, SCRAP, STUCK, WIDER_JOBS, bent, end_of,
                           far_from_end, job_of, moves_from, shows_no_sight_twice, small_jobs, some_plan_is_readable,
                           stands_behind, start_of)

def a_rule_can_be(job):
    """The guarantee: whether some PLAN is readable."""
    two = len(free_places(job)) + len(thrown(job)) >= 2
    return not rings(job) or bool(chains(job)) and two


class AgainstAllStands(unittest.TestCase):
    def test_small_jobs(self):
        for job in list(small_jobs()) + list(WIDER_JOBS):
            far = far_from_end(job)
            start = start_of(job)
            self.assertIs(can_be_done(job), start in far, job)
            if start in far:
                self.assertEqual(fewest_moves(job), far[start], job)
                begin = [move for move, other in moves_from(job, start) if far[other] == far[start] - 1]
                self.assertEqual(first_moves(job), tuple(sorted(begin)), job)
                plan = a_plan(job)
                self.assertEqual(stands_behind(job, plan)[-1], end_of(job))
                self.assertEqual(len(plan), far[start])
                self.assertIs(is_fewest(job, plan), True)

    def test_no_plan(self):
        stuck = [job for job in small_jobs() if start_of(job) not in far_from_end(job)]
        self.assertGreater(len(stuck), 10)
        for job in stuck + [STUCK, GREAT_JOBS[0], GREAT_JOBS[13]]:
            self.assertIs(can_be_done(job), False)
            self.assertIs(is_fewest(job, ()), False)
            for own in (fewest_moves, a_plan, first_moves):
                with self.subTest(own.__name__), self.assertRaises(NoPlan):
                    own(job)

    def test_readable_if_some_plan_is(self):
        for job in list(small_jobs()) + list(WIDER_JOBS):
            if can_be_done(job):
                self.assertIs(shows_no_sight_twice(job, a_plan(job)), some_plan_is_readable(job), job)

    def test_is_fewest_of_all_plans_so_short(self):
        for job in (SCRAP, LONE, (("a", "b", "t"), (("a", "b"),)), (("a", "b"), (("a", None), ("b", None)))):
            pairs = list(product(job[0], job[0] + (None,)))
            many = far_from_end(job)[start_of(job)]
            for row in product(pairs, repeat=many):
                stands = stands_behind(job, row)
                self.assertIs(is_fewest(job, row), stands is not None and stands[-1] == end_of(job), row)


class Guarantees(unittest.TestCase):
    def test_great_jobs(self):
        done = 0
        for job in GREAT_JOBS:
            one = bool(not rings(job) or free_places(job) or thrown(job))
            self.assertIs(can_be_done(job), one)
            if one:
                many = sum([end != box for box, end in job[1]]) + len(rings(job))
                self.assertEqual(fewest_moves(job), many)
                plan = a_plan(job)
                self.assertEqual(stands_behind(job, plan)[-1], end_of(job))
                self.assertEqual(len(plan), many)
                self.assertIs(is_fewest(job, plan), True)
                self.assertIs(shows_no_sight_twice(job, plan), a_rule_can_be(job))
                done += a_rule_can_be(job) and bool(rings(job))
        self.assertGreater(done, 4)

    def test_forty_places_of_many_forms(self):
        forms = product(((2,), (2, 2, 2), (5, 3), (12, 2), (2,) * 9), ((), ((1, False),), ((3, False), (2, False)),
                        ((1, True),), ((4, True),), ((1, True), (2, True)), ((3, False), (2, True))), (0, 1, 2))
        for own_rings, own_chains, free in forms:
            moved = sum(own_rings) + sum([many for many, _ in own_chains])
            taken = moved + sum([not away for _, away in own_chains])
            job = job_of(own_rings, own_chains, 40 - taken - free, free)
            self.assertEqual(len(job[0]), 40)
            if can_be_done(job):
                plan = a_plan(job)
                self.assertEqual(stands_behind(job, plan)[-1], end_of(job))
                self.assertEqual(len(plan), moved + len(own_rings))
                self.assertIs(shows_no_sight_twice(job, plan), a_rule_can_be(job), job)
            else:
                self.assertEqual((own_chains, free), ((), 0))

    def test_the_second_free_place_comes_by_throwing_away(self):
        for job in (job_of((2, 3), ((1, True),), 30, 1), job_of((2, 3), ((1, True), (1, True)), 30, 0),
                    job_of((2, 3), ((3, True), (2, True)), 30, 0), job_of((2,) * 18, ((2, True), (2, True)), 0, 0)):
            self.assertEqual(len(free_places(job)) + len(thrown(job)), 2)
            self.assertIs(shows_no_sight_twice(job, a_plan(job)), True)

    def test_how_often_in_a_fewest_plan(self):
        for job in GREAT_JOBS + (JOB, FAR, SCRAP, LONE):
            if can_be_done(job):
                often = dict(how_often(job, a_plan(job)))
                self.assertEqual(tuple(often), tuple(box for box, _ in job[1]))
                for box, end in job[1]:
                    if not any([box in row for row in rings(job)]):
                        self.assertEqual(often[box], 0 if end == box else 1)
                for row in rings(job):
                    self.assertEqual(sorted([often[box] for box in row]), [1] * (len(row) - 1) + [2])


class Judged(unittest.TestCase):
    def test_longer_plans_are_no_fewest_ones(self):
        for plan in ((("c", "t"), ("t", "c")) + PLAN, (("a", "t"), ("t", "a")) + PLAN,
                     PLAN + (("b", "a"), ("a", "b")), (("c", "t"), ("t", "c")) * 38 + PLAN):
            self.assertIs(is_plan(JOB, plan), True)
            self.assertIs(is_fewest(JOB, plan), False)
        self.assertIs(is_fewest(EMPTY, ()), True)
        self.assertIs(is_fewest((("a", "b"), (("a", "a"),)), (("a", "b"), ("b", "a"))), False)

    def test_bent_plans(self):
        right = 0
        for thing in bent(PLAN):
            wanted = is_plan(JOB, thing) and len(thing) == 4
            self.assertIs(is_fewest(JOB, thing), wanted, thing)
            right += wanted
        self.assertGreater(right, 0)
        for plan in (PLAN[:3], PLAN[1:], PLAN[::-1], list(PLAN), (PLAN[0], list(PLAN[1])) + PLAN[2:]):
            self.assertIs(is_fewest(JOB, plan), False, plan)

    def test_how_often_in_any_plan(self):
        longer = (("c", "t"), ("t", "c")) * 38 + PLAN
        self.assertEqual(how_often(JOB, longer), (("a", 1), ("c", 78), ("d", 1)))
        self.assertEqual(how_often(SCRAP, (("q", None), ("p", "q"))), (("p", 1), ("q", 1)))
        self.assertEqual(how_often((("a", "b", "t"), (("a", "a"), ("b", "b"))), (("b", "t"), ("t", "b"))),
                         (("a", 0), ("b", 2)))
        self.assertEqual(how_often(EMPTY, ()), ())

    def test_first_moves_where_all_places_are_full(self):
        job = job_of((2, 3), ((2, True), (1, True)), 32, 0)
        self.assertEqual(first_moves(job), tuple((box, None) for box in thrown(job)))
        self.assertEqual(first_moves(EMPTY), ())
        self.assertEqual(first_moves(FAR), (("r", None),))

    def test_first_moves_of_a_job_of_forty_places(self):
        job = job_of((2, 3), ((2, True), (3, False)), 28, 1)
        ends = [(row[-1], dict(job[1])[row[-1]]) for row in chains(job)]
        asides = [(box, place) for row in rings(job) for box in row for place in free_places(job)]
        self.assertEqual(first_moves(job), tuple(sorted(ends + asides)))
        self.assertEqual(len(first_moves(job)), 2 + 5 * 2)


if __name__ == "__main__":
    unittest.main()
