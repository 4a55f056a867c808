"""STANDS and MOVES ([5])."""

import unittest
from itertools import product

from namesalone.errors import Impossible, NoName, NoNumber
from namesalone.moves import (after, all_possible, first_stand, is_end, is_plan, is_stand, left_job, move_between,
                              possible, sight_of, sights, stand_at, what_is_at, where_is)
from tests.support import (EMPTY, FAR, GREAT_JOBS, JOB, LONE, PLAN, SCRAP, bent, end_of, full_at, moves_from,
                           small_jobs, stands_behind, stands_of, start_of)

KINDS_OF_JOBS = (
    JOB, SCRAP, LONE, EMPTY,
    (("a", "b", "c"), (("a", None), ("b", "a"))),
    (("a", "b"), (("a", None), ("b", None))),
    (("a", "b", "c"), (("a", "b"), ("b", "a"), ("c", None))),
    (("a", "b"), (("a", "a"), ("b", "b"))),
)


class Stands(unittest.TestCase):
    def test_first_stand_and_end(self):
        for job in list(small_jobs()) + list(GREAT_JOBS):
            self.assertEqual(first_stand(job), start_of(job))
            self.assertIs(is_stand(job, first_stand(job)), True)
            self.assertIs(is_end(job, end_of(job)), True)
            self.assertIs(is_end(job, start_of(job)), all([end == box for box, end in job[1]]))

    def test_is_stand_and_is_end_of_all_stands(self):
        for job in KINDS_OF_JOBS:
            for stand in stands_of(job):
                self.assertIs(is_stand(job, stand), True)
                self.assertIs(is_end(job, stand), stand == end_of(job))

    def test_is_stand_of_all_rows_of_pairs(self):
        for job in KINDS_OF_JOBS[1:]:
            right = set(stands_of(job))
            names = tuple(job[0][:3]) + ("x",)
            pairs = list(product(names, names))
            rows = [row for many in range(3) for row in product(pairs, repeat=many)]
            for row in rows:
                self.assertIs(is_stand(job, row), row in right, row)

    def test_is_stand_of_bent_ones(self):
        right = [repr(stand) for stand in stands_of(LONE)]
        for thing in bent((("c", "d"), ("t", "c"))):
            self.assertIs(is_stand(LONE, thing), repr(thing) in right, thing)
        self.assertIs(is_stand(EMPTY, ()), True)
        self.assertIs(is_stand(EMPTY, []), False)
        self.assertIs(is_stand((("a", "b"), (("a", None), ("b", None))), ()), True)

    def test_where_and_what(self):
        for job in KINDS_OF_JOBS:
            for stand in stands_of(job):
                held, kept = dict(stand), {box: place for place, box in stand}
                for place in job[0]:
                    self.assertEqual(what_is_at(job, stand, place), held.get(place))
                for box, _ in job[1]:
                    self.assertEqual(where_is(job, stand, box), kept.get(box))
                self.assertEqual(sight_of(stand), tuple(sorted(held)))

    def test_no_such_box_or_place(self):
        stand = (("a", "a"), ("d", "d"), ("t", "c"))
        for name in ("b", "t", "x", "abcdefgh"):
            with self.subTest(name), self.assertRaises(NoName) as held:
                where_is(JOB, stand, name)
            self.assertEqual(held.exception.name, name)
        for name in ("x", "aa", "abcdefgh"):
            with self.subTest(name), self.assertRaises(NoName) as held:
                what_is_at(JOB, stand, name)
            self.assertEqual(held.exception.name, name)
        self.assertIsNone(where_is(SCRAP, (("p", "p"),), "q"))

    def test_left_job(self):
        for job in KINDS_OF_JOBS:
            for stand in stands_of(job):
                left = left_job(job, stand)
                self.assertEqual(left, (job[0], tuple((place, dict(job[1])[box]) for place, box in stand)))
                there = dict(stand)
                for move, behind in moves_from(job, stand):
                    self.assertIs(possible(left, first_stand(left), move), True)
                    made = after(left, first_stand(left), move)
                    self.assertEqual(tuple((place, there[box]) for place, box in made), behind)

    def test_a_plan_goes_on_in_the_job_that_is_left(self):
        for at in range(len(PLAN) + 1):
            self.assertIs(is_plan(left_job(JOB, stand_at(JOB, PLAN, at)), PLAN[at:]), True)


class Moves(unittest.TestCase):
    def test_possible_and_after_of_all_moves(self):
        for job in KINDS_OF_JOBS:
            names = job[0] + ("x", "zz", None)
            for stand in stands_of(job):
                ways = dict(moves_from(job, stand))
                for move in product(names[:-1], names):
                    self.assertIs(possible(job, stand, move), move in ways, (job, stand, move))
                    if move in ways:
                        self.assertEqual(after(job, stand, move), ways[move])
                    else:
                        with self.assertRaises(Impossible) as held:
                            after(job, stand, move)
                        self.assertEqual(held.exception.move, move)

    def test_moves_that_are_not_possible(self):
        stand = (("a", "a"), ("d", "d"), ("t", "c"))
        for move in (("a", "a"), ("a", "d"), ("a", "x"), ("a", None), ("t", None), ("b", "c"), ("x", "b"), ("b", "b")):
            self.assertIs(possible(JOB, stand, move), False, move)
        self.assertIs(possible(SCRAP, (("p", "p"),), ("q", None)), False)
        self.assertIs(possible(SCRAP, first_stand(SCRAP), ("p", None)), False)
        self.assertIs(possible(SCRAP, first_stand(SCRAP), ("q", None)), True)

    def test_all_possible_in_their_order(self):
        for job in KINDS_OF_JOBS:
            for stand in stands_of(job):
                moves = [move for move, _ in moves_from(job, stand)]
                wanted = sorted([move for move in moves if move[1] is not None])
                wanted += [(place, None) for place in sorted([move[0] for move in moves if move[1] is None])]
                self.assertEqual(all_possible(job, stand), wanted)

    def test_those_thrown_away_come_last(self):
        job = (("a", "b", "c", "d"), (("a", None), ("b", "b"), ("d", None)))
        self.assertEqual(all_possible(job, first_stand(job)),
                         [("a", "c"), ("b", "c"), ("d", "c"), ("a", None), ("d", None)])
        self.assertEqual(all_possible(job, (("a", "d"), ("b", "b"), ("d", "a")))[-2:], [("a", None), ("d", None)])
        self.assertEqual(all_possible(EMPTY, ()), [])

    def test_move_between_all_pairs_of_stands(self):
        for job in KINDS_OF_JOBS[1:]:
            for one in stands_of(job):
                ways = {behind: move for move, behind in moves_from(job, one)}
                for other in stands_of(job):
                    self.assertEqual(move_between(job, one, other), ways.get(other), (job, one, other))

    def test_move_between_where_more_than_one_is_needed(self):
        stands = stands_behind(JOB, PLAN)
        for one, first in enumerate(stands):
            for other, second in enumerate(stands):
                wanted = PLAN[one] if other == one + 1 else None
                if other == one - 1:
                    wanted = PLAN[other][::-1]
                self.assertEqual(move_between(JOB, first, second), wanted)


class Plans(unittest.TestCase):
    def test_is_plan_of_all_short_rows(self):
        for job in KINDS_OF_JOBS[1:]:
            pairs = list(product(job[0] + ("x",), job[0] + ("x", None)))
            for many in range(3):
                for row in product(pairs, repeat=many):
                    stands = stands_behind(job, row)
                    self.assertIs(is_plan(job, row), stands is not None and stands[-1] == end_of(job), row)

    def test_is_plan_of_bent_plans(self):
        for job, plan in ((JOB, PLAN), (SCRAP, (("q", None), ("p", "q"))), (FAR, (("r", None), ("q", "r"), ("p", "q")))):
            self.assertIs(is_plan(job, plan), True)
            right = 0
            for thing in bent(plan):
                wanted = well_made(thing) and stands_behind(job, thing) is not None
                wanted = wanted and stands_behind(job, thing)[-1] == end_of(job)
                self.assertIs(is_plan(job, thing), wanted, thing)
                right += wanted
            self.assertGreater(right, 0)

    def test_sights_and_stands_at_all_moments(self):
        for job, plan in ((JOB, PLAN), (SCRAP, (("q", None), ("p", "q"))), (JOB, ()), (EMPTY, ()), (JOB, PLAN[:2]),
                          (LONE, (("c", "t"), ("t", "c")) * 40), (JOB, (("c", "t"), ("t", "c")) * 38 + PLAN)):
            stands = stands_behind(job, plan)
            self.assertEqual(sights(job, plan), tuple(full_at(stand) for stand in stands))
            for moment, stand in enumerate(stands):
                self.assertEqual(stand_at(job, plan, moment), stand)
            for moment in (-1, -2, len(stands), len(stands) + 1, -10 ** 40, 10 ** 40, -len(stands)):
                with self.assertRaises(NoNumber) as held:
                    stand_at(job, plan, moment)
                self.assertEqual(held.exception.number, moment)

    def test_eighty_moves(self):
        plan = (("c", "t"), ("t", "c")) * 38 + PLAN
        self.assertEqual(len(plan), 80)
        self.assertIs(is_plan(JOB, plan), True)
        self.assertEqual(stand_at(JOB, plan, 80), end_of(JOB))
        self.assertEqual(len(sights(JOB, plan)), 81)

    def test_impossible_tells_the_first_one_and_comes_ahead_of_no_number(self):
        rows = (
            ((("c", "d"),), ("c", "d")),
            ((("c", "t"), ("a", "x"), ("q", "b")), ("a", "x")),
            ((("c", "t"), ("c", "b")), ("c", "b")),
            (PLAN + (("a", None), ("b", "b")), ("a", None)),
            ((("a", "a"),), ("a", "a")),
            ((("x", None), ("c", "t")), ("x", None)),
        )
        for plan, move in rows:
            for moment in (0, 1, -1, 99, 10 ** 40):
                with self.subTest(plan=plan, moment=moment), self.assertRaises(Impossible) as held:
                    stand_at(JOB, plan, moment)
                self.assertEqual(held.exception.move, move)
            with self.subTest(plan=plan), self.assertRaises(Impossible) as held:
                sights(JOB, plan)
            self.assertEqual(held.exception.move, move)

    def test_great_jobs(self):
        for job in GREAT_JOBS:
            full = full_at(start_of(job))
            self.assertEqual(sights(job, ()), (full,))
            self.assertEqual(stand_at(job, (), 0), start_of(job))
            self.assertEqual(len(all_possible(job, first_stand(job))),
                             len(full) * (40 - len(full)) + list(dict(job[1]).values()).count(None))


def well_made(thing):
    """Whether thing is a tuple of pairs of which stands_behind can be asked."""
    if not isinstance(thing, tuple):
        return False
    return all([isinstance(move, tuple) and len(move) == 2 and isinstance(move[0], str)
                and (move[1] is None or isinstance(move[1], str)) for move in thing])


if __name__ == "__main__":
    unittest.main()
