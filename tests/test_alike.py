"""Moments that look alike ([7])."""

import unittest
from itertools import combinations
from random import Random

from namesalone.alike import (alike_pairs, first_alike, first_whole, how_many_sights, is_alike, is_readable,
                              moments_of, moves_of, open_rings, rings_between)
from namesalone.errors import NoNumber
from namesalone.fewest import can_be_done
from tests.support import (EMPTY, FAR, GREAT_JOBS, JOB, LONE, PLAN, SCRAP, WIDER_JOBS, drawn_plan, far_from_end,
                           fewest_plans, rings_of, sights_shown, small_jobs, stands_behind, start_of, walked_plan)

BAD = (("c", "t"), ("d", "c"), ("t", "d"), ("a", "b"))
EIGHTY = (("c", "t"), ("t", "c")) * 38 + PLAN
OUTSIDE = (-1, -2, -5, 5, 6, -10 ** 40, 10 ** 40)
SMALL = [job for job in small_jobs(3) if start_of(job) in far_from_end(job)]


def pairs_of(job, plan):
    """By the words of the document."""
    shown = sights_shown(job, plan)
    return [(one, other) for one, other in combinations(range(len(shown)), 2) if shown[one] == shown[other]]


def ring_moves(job, plan):
    """For each RING the numbers of the MOVES that its boxes make, followed box by box."""
    numbers = {row: [] for row in rings_of(job)}
    for number, stand in enumerate(stands_behind(job, plan)[:-1]):
        box = dict(stand)[plan[number][0]]
        for row in numbers:
            if box in row:
                numbers[row].append(number)
    return numbers


def made_whole(numbers, one, other):
    """The RINGS of which all the MOVES between these moments are, whole; None if there are other MOVES."""
    some = [row for row in numbers if any([one <= number < other for number in numbers[row]])]
    whole = sum([len(numbers[row]) for row in some])
    inside = all([one <= number < other for row in some for number in numbers[row]])
    return tuple(some) if some and inside and whole == other - one else None


class AnyPlan(unittest.TestCase):
    def plans(self):
        draw = Random(7)
        for job in SMALL + list(WIDER_JOBS[:8]) + [JOB, SCRAP]:
            for many in (0, 3, 9):
                yield job, walked_plan(job, draw, many)
        yield from ((JOB, PLAN), (JOB, BAD), (JOB, EIGHTY), (EMPTY, ()), (LONE, (("c", "t"), ("t", "c")) * 38 + BAD[:3]))

    def test_pairs_of_moments(self):
        found = 0
        for job, plan in self.plans():
            wanted = pairs_of(job, plan)
            self.assertEqual(alike_pairs(job, plan), wanted, (job, plan))
            self.assertIs(is_readable(job, plan), wanted == [])
            found += wanted != []
            if wanted:
                least = min([other for _, other in wanted])
                self.assertEqual([first_alike(job, plan)], [pair for pair in wanted if pair[1] == least])
            else:
                self.assertIsNone(first_alike(job, plan))
        self.assertGreater(found, 40)

    def test_is_alike_in_any_order_and_the_same(self):
        for job, plan in self.plans():
            wanted = pairs_of(job, plan)
            for one in range(min(len(plan), 12) + 1):
                for other in range(min(len(plan), 12) + 1):
                    right = one == other or (min(one, other), max(one, other)) in wanted
                    self.assertIs(is_alike(job, plan, one, other), right, (job, plan, one, other))

    def test_moments_and_sights(self):
        for job, plan in self.plans():
            shown = sights_shown(job, plan)
            self.assertEqual(how_many_sights(job, plan), len(set(shown)))
            for many in range(len(job[0]) + 1):
                for sight in combinations(job[0], many):
                    wanted = tuple(at for at, own in enumerate(shown) if own == sight)
                    self.assertEqual(moments_of(job, plan, sight), wanted)
            self.assertEqual(moments_of(job, plan, job[0] + ("zz",)), ())
            self.assertEqual(moments_of(job, plan, ("zz",)), ())

    def test_the_least_other_is_not_the_least_one(self):
        # The pair with the least one is (0, 4), that with the least other is (1, 3).
        job = (("a", "b", "c", "d", "e"), (("a", "a"), ("b", "b"), ("c", "c")))
        plan = (("a", "d"), ("b", "e"), ("e", "b"), ("d", "a"))
        self.assertEqual(alike_pairs(job, plan), [(0, 4), (1, 3)])
        self.assertEqual(first_alike(job, plan), (1, 3))

    def test_alike_where_the_stand_is_the_same_and_where_it_is_not(self):
        self.assertEqual(alike_pairs(LONE, BAD[:3]), [(0, 3)])
        self.assertEqual(alike_pairs(LONE, (("c", "t"), ("t", "c")) + BAD[:3])[:2], [(0, 2), (0, 5)])
        self.assertIs(is_readable(EMPTY, ()), True)
        self.assertEqual((how_many_sights(EMPTY, ()), moments_of(EMPTY, (), ())), (1, (0,)))


class NoSuchMoment(unittest.TestCase):
    def raises(self, number, own, *values):
        with self.subTest(own.__name__, values=values[2:]), self.assertRaises(NoNumber) as held:
            own(*values)
        self.assertEqual(held.exception.number, number)

    def test_the_first_one_that_is_none(self):
        for number in OUTSIDE:
            for own in (is_alike, rings_between):
                self.raises(number, own, JOB, PLAN, number, 4)
                self.raises(number, own, JOB, PLAN, 0, number)
                self.raises(number, own, JOB, PLAN, number, 99)
                self.raises(99, own, JOB, PLAN, 99, number)
            self.raises(number, open_rings, JOB, PLAN, number)

    def test_the_last_moment_is_one(self):
        self.assertIs(is_alike(JOB, EIGHTY, 80, 80), True)
        self.assertIs(is_alike(JOB, EIGHTY, 0, 80), False)
        self.assertEqual(open_rings(JOB, PLAN, 4), ())
        self.assertIsNone(rings_between(JOB, PLAN, 0, 4))
        self.raises(81, is_alike, JOB, EIGHTY, 80, 81)
        self.raises(1, is_alike, EMPTY, (), 0, 1)
        self.raises(-1, is_alike, EMPTY, (), -1, 0)
        self.raises(1, open_rings, EMPTY, (), 1)
        self.raises(-1, rings_between, EMPTY, (), 0, -1)
        self.assertIs(is_alike(EMPTY, (), 0, 0), True)

    def test_ahead_of_the_answer_that_they_are_not_alike(self):
        self.raises(9, rings_between, JOB, PLAN, 1, 9)
        self.raises(-3, rings_between, JOB, BAD, -3, 3)


class FewestPlans(unittest.TestCase):
    @classmethod
    def setUpClass(cls):
        draw, cls.plans = Random(11), []
        for job in SMALL + [JOB, FAR]:
            cls.plans += [(job, plan, ring_moves(job, plan)) for plan in fewest_plans(job)]
        for job in WIDER_JOBS + GREAT_JOBS:
            if can_be_done(job):
                for _ in range(6 if job in WIDER_JOBS else 1):
                    plan = drawn_plan(job, draw)
                    cls.plans.append((job, plan, ring_moves(job, plan)))

    def test_alike_exactly_if_some_rings_are_made_whole(self):
        alike = more = 0
        for job, plan, numbers in self.plans:
            made = {pair: made_whole(numbers, *pair) for pair in combinations(range(len(plan) + 1), 2)}
            wanted = [pair for pair, rows in made.items() if rows is not None]
            self.assertEqual(alike_pairs(job, plan), wanted, (job, plan))
            self.assertIs(is_readable(job, plan), wanted == [])
            alike += len(wanted)
            more += len([pair for pair in wanted if len(made[pair]) > 1])
        self.assertGreater(alike, 50)
        self.assertGreater(more, 5)

    def test_rings_between(self):
        for job, plan, numbers in self.plans:
            if len(plan) < 12:
                for one, other in combinations(range(len(plan) + 1), 2):
                    self.assertEqual(rings_between(job, plan, one, other), made_whole(numbers, one, other))

    def test_moves_of_and_open_rings(self):
        opened = 0
        for job, plan, numbers in self.plans:
            for row in numbers:
                self.assertEqual(moves_of(job, plan, row), tuple(numbers[row]))
            for moment in range(min(len(plan), 12) + 1):
                wanted = tuple(row for row in numbers if numbers[row][0] < moment <= numbers[row][-1])
                self.assertEqual(open_rings(job, plan, moment), wanted)
                opened += len(wanted) > 1
        self.assertGreater(opened, 10)

    def test_first_whole(self):
        whole = 0
        for job, plan, numbers in self.plans:
            pair = first_alike(job, plan)
            if pair is None:
                self.assertIsNone(first_whole(job, plan))
                self.assertIs(is_readable(job, plan), True)
            else:
                one, other, made = first_whole(job, plan)
                self.assertEqual(((one, other), made), (pair, made_whole(numbers, one, other)))
                whole += 1
        self.assertGreater(whole, 30)

    def test_two_rings_made_one_within_the_other(self):
        job = (("a", "b", "c", "d", "t"), (("a", "b"), ("b", "a"), ("c", "d"), ("d", "c")))
        plan = (("a", "t"), ("c", "a"), ("d", "c"), ("a", "d"), ("b", "a"), ("t", "b"))
        self.assertEqual(alike_pairs(job, plan), [(0, 6), (1, 4)])
        self.assertEqual(rings_between(job, plan, 0, 6), (("a", "b"), ("c", "d")))
        self.assertEqual(first_whole(job, plan), (1, 4, (("c", "d"),)))
        self.assertEqual([open_rings(job, plan, at) for at in (0, 1, 2, 4, 5, 6)],
                         [(), (("a", "b"),), (("a", "b"), ("c", "d")), (("a", "b"),), (("a", "b"),), ()])
        self.assertEqual(moves_of(job, plan, ("a", "b")), (0, 4, 5))


if __name__ == "__main__":
    unittest.main()
