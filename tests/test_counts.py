"""Fewest PLANS counted ([9])."""

import unittest
from math import factorial
from random import Random

from namesalone.counts import (how_many_plans, how_many_readable, nth_plan, nth_readable, number_of_plan,
                               number_of_readable, readable_begin_moves)
from namesalone.errors import NoNumber
from namesalone.moves import is_plan
from tests.support import (EMPTY, FAR, GREAT_JOBS, JOB, LONE, PLAN, SCRAP, STUCK, WIDER_JOBS, drawn_plan,
                           far_from_end, fewest_plans, job_of, plans_by_words, shows_no_sight_twice, small_jobs,
                           start_of, walked_plan)

SEARCHED = list(small_jobs()) + list(WIDER_JOBS) + [JOB, FAR, SCRAP, LONE, STUCK]
TEN = "abcdefghij"
# JOBS with RINGS, of 10 places, 7 MOVES and 3 places that are free or become free.
TEN_JOBS = tuple(job_of(*row, names=TEN) for row in (
    ((2, 2), ((1, False),), 2, 2), ((2,), ((2, False), (2, True)), 1, 2), ((3,), ((3, False),), 1, 2),
    ((6,), (), 1, 3), ((2, 3), (), 2, 3), ((2,), ((1, True), (2, True), (1, True)), 4, 0),
    ((2, 2), ((1, True),), 3, 2), ((2,), ((4, False),), 1, 2), ((3,), ((1, False), (1, False), (1, False)), 1, 0),
))
RINGLESS = tuple(job for job in GREAT_JOBS if job in (
    job_of((), ((39, False),), 0, 0), job_of((), ((40, True),), 0, 0), job_of((), (), 40, 0),
    job_of((), (), 0, 40), job_of((), ((1, True),) * 40, 0, 0))) + (
    job_of((), ((1, False),) * 20, 0, 0), job_of((), ((5, False), (9, True), (3, True), (1, False), (12, False)), 2, 5),
    job_of((), ((10, True), (10, True), (10, True), (10, True)), 0, 0), job_of((), ((2, False),) * 13, 1, 0))
KINDS = ((how_many_plans, nth_plan, number_of_plan), (how_many_readable, nth_readable, number_of_readable))


def lengths(job):
    """How many boxes each CHAIN has."""
    goal, found = dict(job[1]), []
    for box in goal:
        if box not in goal.values():
            many = 1
            while goal[box] in goal:
                box, many = goal[box], many + 1
            found.append(many)
    return found


class AgainstAllFewestPlans(unittest.TestCase):
    def check(self, job, plans, own, numbers):
        how_many, nth, number_of = own
        self.assertEqual(how_many(job), len(plans), job)
        for number in numbers:
            self.assertEqual(nth(job, number), plans[number])
            self.assertEqual(number_of(job, plans[number]), number)

    def test_small_jobs_in_ascending_order(self):
        more = 0
        for job in SEARCHED:
            plans = fewest_plans(job)
            readable = [plan for plan in plans if shows_no_sight_twice(job, plan)]
            step = 1 + len(plans) // 30
            self.check(job, plans, KINDS[0], range(0, len(plans), step))
            self.check(job, readable, KINDS[1], range(0, len(readable), 1 + len(readable) // 30))
            self.assertEqual(readable_begin_moves(job), tuple(sorted({plan[0] for plan in readable if plan})), job)
            more += 0 < len(readable) < len(plans)
        self.assertGreater(more, 10)

    def test_all_of_one_job(self):
        for job in (JOB, WIDER_JOBS[2], WIDER_JOBS[5]):
            plans = fewest_plans(job)
            readable = [plan for plan in plans if shows_no_sight_twice(job, plan)]
            self.assertGreater(len(readable), 3)
            self.check(job, plans, KINDS[0], range(len(plans)))
            self.check(job, readable, KINDS[1], range(len(readable)))

    def test_jobs_of_ten_places(self):
        draw, mixed = Random(13), 0
        for job in TEN_JOBS:
            self.assertEqual(len(job[0]), 10)
            plans = plans_by_words(job)
            self.assertLessEqual(len(plans[0]), 7)
            readable = [plan for plan in plans if shows_no_sight_twice(job, plan)]
            for rows, own in ((plans, KINDS[0]), (readable, KINDS[1])):
                drawn = [draw.randrange(len(rows)) for _ in range(5)] + [0, len(rows) - 1] if rows else []
                self.check(job, rows, own, drawn)
            self.assertEqual(readable_begin_moves(job), tuple(sorted({plan[0] for plan in readable})))
            mixed += 0 < len(readable) < len(plans)
        self.assertGreater(mixed, 5)

    def test_the_words_of_fewest_plans_say_what_the_search_finds(self):
        for job in SEARCHED:
            plans = fewest_plans(job)
            if plans:
                self.assertEqual(plans_by_words(job), plans)


class WithoutRings(unittest.TestCase):
    def test_how_many(self):
        for job in RINGLESS:
            many = factorial(sum(lengths(job)))
            for length in lengths(job):
                many //= factorial(length)
            self.assertEqual((how_many_plans(job), how_many_readable(job)), (many, many))
        self.assertEqual(how_many_plans(job_of((), ((1, True),) * 40, 0, 0)), factorial(40))

    def test_numbers_there_and_back(self):
        draw = Random(17)
        for job in RINGLESS:
            many = how_many_plans(job)
            for own in KINDS:
                for number in {0, many - 1, draw.randrange(many)}:
                    plan = own[1](job, number)
                    self.assertEqual(own[2](job, plan), number)
                    self.assertIs(is_plan(job, plan), True)
                    self.assertEqual(len(plan), sum(lengths(job)))
                plan = drawn_plan(job, draw)
                self.assertEqual(own[1](job, own[2](job, plan)), plan)

    def test_each_one_is_below_the_next(self):
        draw = Random(19)
        for job in RINGLESS:
            many = how_many_plans(job)
            if many > 1:
                number = draw.randrange(many - 1)
                self.assertLess(nth_plan(job, number), nth_plan(job, number + 1))

    def test_begins(self):
        for job in RINGLESS:
            goal = dict(job[1])
            wanted = [(box, end) for box, end in job[1] if end != box and end not in goal]
            self.assertEqual(readable_begin_moves(job), tuple(wanted))


class Numbers(unittest.TestCase):
    def test_no_such_number(self):
        for job in (JOB, SCRAP, LONE, STUCK, EMPTY, FAR, RINGLESS[5], TEN_JOBS[0], (("a", "b"), (("a", "a"),))):
            for how_many, nth, _ in KINDS:
                many = how_many(job)
                for number in (-1, -2, -many, many, many + 1, -10 ** 40, 10 ** 40, 10 ** 60):
                    if not 0 <= number < many:
                        with self.subTest(job=job, number=number), self.assertRaises(NoNumber) as held:
                            nth(job, number)
                        self.assertEqual(held.exception.number, number)

    def test_plans_that_are_not_counted(self):
        longer = (("c", "t"), ("t", "c")) + PLAN
        bad = (("c", "t"), ("d", "c"), ("t", "d"), ("a", "b"))
        for plan, numbers in ((longer, (None, None)), ((("c", "t"), ("t", "c")) * 38 + PLAN, (None, None)),
                              (bad, (7, None)), (PLAN, (5, 0))):
            self.assertEqual((number_of_plan(JOB, plan), number_of_readable(JOB, plan)), numbers)
        still = (("a", "b", "t"), (("a", "b"),))
        self.assertIsNone(number_of_plan(still, (("a", "t"), ("t", "b"))))
        # This one is readable, but has a MOVE too many.
        self.assertIsNone(number_of_readable(still, (("a", "t"), ("t", "b"))))
        self.assertEqual(number_of_readable(still, (("a", "b"),)), 0)

    def test_walked_plans(self):
        draw, none = Random(23), 0
        for job in SEARCHED[::3]:
            plans = fewest_plans(job)
            if start_of(job) in far_from_end(job):
                plan = walked_plan(job, draw, 3)
                wanted = plans.index(plan) if plan in plans else None
                self.assertEqual(number_of_plan(job, plan), wanted)
                readable = [own for own in plans if shows_no_sight_twice(job, own)]
                self.assertEqual(number_of_readable(job, plan), readable.index(plan) if plan in readable else None)
                none += wanted is None
        self.assertGreater(none, 20)

    def test_jobs_without_a_plan(self):
        for job in (STUCK, GREAT_JOBS[0], GREAT_JOBS[13], (("a", "b", "c"), (("a", "b"), ("b", "a"), ("c", "c")))):
            self.assertEqual((how_many_plans(job), how_many_readable(job), readable_begin_moves(job)), (0, 0, ()))

    def test_jobs_of_one_plan_without_a_move(self):
        for job in (EMPTY, (("a", "b"), (("a", "a"), ("b", "b"))), job_of((), (), 40, 0), job_of((), (), 0, 40)):
            self.assertEqual((how_many_plans(job), how_many_readable(job), readable_begin_moves(job)), (1, 1, ()))
            for _, nth, number_of in KINDS:
                self.assertEqual((nth(job, 0), number_of(job, ())), ((), 0))

    def test_jobs_with_plans_of_which_none_is_readable(self):
        for job in (LONE, job_of((2, 3), (), 0, 3, names=TEN), job_of((2,), ((3, False),), 0, 0, names=TEN)):
            self.assertGreater(how_many_plans(job), 0)
            self.assertEqual((how_many_readable(job), readable_begin_moves(job)), (0, ()))
            self.assertIsNone(number_of_readable(job, nth_plan(job, 0)))


if __name__ == "__main__":
    unittest.main()
