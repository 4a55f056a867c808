"""JOBS ([4])."""

import unittest
from itertools import permutations, product

from namesalone.errors import NoName
from namesalone.jobs import (back_job, boxes, chains, free_places, goes_to, is_job, renamed_job, rings, staying,
                             then_job, thrown, with_places)
from tests.support import (EMPTY, FAR, GREAT_JOBS, JOB, NAMES40, SCRAP, STRANGE, bent, job_of, jobs_with, small_jobs)


def is_ring(job, row):
    """By the words of the document."""
    goal = dict(job[1])
    pairs = zip(row, row[1:] + row[:1])
    return len(row) > 1 and row[0] == min(row) and all([goal.get(box, 0) == other for box, other in pairs])


def is_chain(job, row):
    """By the words of the document."""
    goal = dict(job[1])
    if not all([box in goal and goal[box] != box for box in row]) or row[0] in goal.values():
        return False
    last = goal[row[-1]]
    inner = all([goal[box] == other for box, other in zip(row, row[1:])])
    return inner and (last is None or last not in goal)


class IsJob(unittest.TestCase):
    def test_every_pair_built_from_two_names(self):
        places = [row for many in range(4) for row in product(("a", "b"), repeat=many)]
        pairs = list(product(("a", "b", "c"), ("a", "b", "c", None)))
        goals = [row for many in range(3) for row in product(pairs, repeat=many)]
        right = {job for names in (("a",), ("b",), ("a", "b")) for job in jobs_with(names)}
        self.assertEqual(len(right), 3 + 3 + 14)
        for thing in product(places, goals):
            self.assertIs(is_job(thing), thing in right, thing)

    def test_jobs_of_every_size(self):
        for job in list(small_jobs()) + list(GREAT_JOBS):
            self.assertIs(is_job(job), True)
        self.assertEqual({len(job[0]) for job in GREAT_JOBS}, {40})

    def test_bent_jobs(self):
        right = set(jobs_with(("p", "q"))) | set(jobs_with(("p", "a"))) | set(jobs_with(("p",)))
        right |= {job for names in (("a", "q"), ("p", "zz"), ("a",), ("q",)) for job in jobs_with(names)}
        seen = 0
        for thing in bent(SCRAP):
            wanted = any([repr(thing) == repr(job) for job in right]) and thing[0] == tuple(sorted(thing[0]))
            self.assertIs(is_job(thing), wanted, thing)
            seen += wanted
        self.assertGreater(seen, 2)

    def test_what_is_a_name(self):
        for name in ("a", "z", "abcdefgh", "zz"):
            self.assertIs(is_job(((name,), ())), True, name)
        for name in ("", "abcdefghi", "A", "a1", "a b", " a", "a ", "-", "a\n", "\u00e4", "\u00df", "|", "`", "{"):
            self.assertIs(is_job(((name,), ())), False, name)
            self.assertIs(is_job((("a", name), ())), False, name)

    def test_strange_parts(self):
        for thing in STRANGE:
            if thing not in ("zz",):
                self.assertIs(is_job(((thing,), ())), False, thing)
                self.assertIs(is_job((("a", "b"), (("a", thing),))), thing is None, thing)
            self.assertIs(is_job((("a", "b"), ((thing, "a"),))), False, thing)
            self.assertIs(is_job((("a", "b"), (("a", "b"), thing))), False, thing)

    def test_goal_told_wrongly(self):
        for goal in ((("b", "a"), ("a", "b")), (("a", "b"), ("a", None)), (("a", "a"), ("a", "a")),
                     (("a", "b"), ("b", "b")), (("c", "a"),), (("a", "c"),), (("a",),), (("a", "b", "a"),), "ab"):
            self.assertIs(is_job((("a", "b"), goal)), False, goal)
        self.assertIs(is_job((("a", "b"), (("a", None), ("b", None)))), True)
        for places in (("b", "a"), ("a", "a"), (), "ab", ("a", "b", "a"), None, "a"):
            self.assertIs(is_job((places, ())), False, places)
        self.assertIs(is_job((("a",), (), ())), False)
        self.assertIs(is_job((("a",),)), False)


class Parts(unittest.TestCase):
    def test_boxes_of_every_small_job(self):
        for job in list(small_jobs()) + list(GREAT_JOBS):
            places, goal = job
            self.assertEqual(boxes(job), tuple(box for box, _ in goal))
            self.assertEqual(free_places(job), tuple(place for place in places if place not in dict(goal)))
            self.assertEqual(staying(job), tuple(box for box, end in goal if box == end))
            self.assertEqual(thrown(job), tuple(box for box, end in goal if end is None))

    def test_goes_to(self):
        for job in list(small_jobs(3)) + list(GREAT_JOBS):
            for place in job[0]:
                if place in dict(job[1]):
                    self.assertEqual(goes_to(job, place), dict(job[1])[place])
        self.assertIsNone(goes_to(SCRAP, "q"))

    def test_goes_to_any_string(self):
        for name in ("b", "t", "x", "", "A", "None", "abcdefghij", "\u00e9", "a b", "-", "a" * 400):
            with self.subTest(name), self.assertRaises(NoName) as held:
                goes_to(JOB, name)
            self.assertEqual(held.exception.name, name)
        with self.assertRaises(NoName):
            goes_to(EMPTY, "a")


class RingsAndChains(unittest.TestCase):
    def test_small_jobs_by_the_words_of_the_document(self):
        for job in small_jobs():
            rows = [row for many in range(1, 5) for row in permutations(job[0], many)]
            self.assertEqual(rings(job), tuple(sorted([row for row in rows if is_ring(job, row)])), job)
            self.assertEqual(chains(job), tuple(sorted([row for row in rows if is_chain(job, row)])), job)

    def test_each_box_that_does_not_stay_is_in_just_one(self):
        for job in list(small_jobs()) + list(GREAT_JOBS):
            held = sorted([box for row in rings(job) + chains(job) for box in row])
            self.assertEqual(held, [box for box, end in job[1] if end != box])

    def test_great_ones(self):
        job = job_of((2, 3, 5), ((1, True), (4, False), (2, True)), 3, 2)
        self.assertEqual(sorted(map(len, rings(job))), [2, 3, 5])
        self.assertEqual(sorted(map(len, chains(job))), [1, 2, 4])
        self.assertEqual(len(rings(GREAT_JOBS[2])), 19)
        self.assertEqual(rings(GREAT_JOBS[0]), (NAMES40,))
        self.assertEqual((rings(GREAT_JOBS[9]), len(chains(GREAT_JOBS[9])[0])), ((), 40))

    def test_a_ring_begins_with_its_least(self):
        job = (("a", "b", "c", "d", "e"), (("a", "d"), ("b", "e"), ("c", "b"), ("d", "a"), ("e", "c")))
        self.assertEqual(rings(job), (("a", "d"), ("b", "e", "c")))

    def test_chains_come_by_their_first_box(self):
        job = (("a", "b", "c", "d", "e"), (("b", "a"), ("c", "e"), ("d", None), ("e", "d")))
        self.assertEqual(chains(job), (("b",), ("c", "e", "d")))


class MadeJobs(unittest.TestCase):
    def test_back_job(self):
        for job in small_jobs():
            if None not in dict(job[1]).values():
                back = back_job(job)
                self.assertIs(is_job(back), True)
                self.assertEqual({(end, box) for box, end in back[1]}, set(job[1]))
                self.assertEqual((back[0], back_job(back)), (job[0], job))

    def test_then_job(self):
        after_far = (FAR[0], (("q", "z"), ("r", None), ("s", "q")))
        self.assertEqual(then_job(FAR, after_far),
                         (FAR[0], (("p", "z"), ("q", None), ("r", None), ("s", "q"))))
        for job in small_jobs(3):
            kept = sorted([end for _, end in job[1] if end is not None])
            for other in jobs_with(job[0]):
                if [box for box, _ in other[1]] == kept:
                    both = then_job(job, other)
                    self.assertIs(is_job(both), True)
                    ends = {None: None, **dict(other[1])}
                    self.assertEqual(both, (job[0], tuple((box, ends[end]) for box, end in job[1])))

    def test_then_job_of_all_thrown_away(self):
        job = (("a", "b"), (("a", None), ("b", None)))
        self.assertEqual(then_job(job, (("a", "b"), ())), job)

    def test_renamed_job_exchanges_and_orders_anew(self):
        self.assertEqual(renamed_job(FAR, (("p", "z"), ("z", "p"))),
                         (FAR[0], (("q", "r"), ("r", None), ("s", "s"), ("z", "q"))))
        self.assertEqual(renamed_job(JOB, (("d", "a"), ("a", "c"), ("c", "d"))),
                         (JOB[0], (("a", "d"), ("c", "b"), ("d", "a"))))
        self.assertEqual(renamed_job(JOB, ()), JOB)
        self.assertEqual(renamed_job(JOB, (("t", "t"),)), JOB)
        self.assertEqual(renamed_job(SCRAP, (("q", "abcdefgh"),)), (("abcdefgh", "p"), (("abcdefgh", None),
                                                                                     ("p", "abcdefgh"))))

    def test_renamed_job_there_and_back(self):
        for job in small_jobs(3):
            for row in permutations(("a", "b", "c", "x"), len(job[0])):
                made = renamed_job(job, tuple(zip(job[0], row)))
                self.assertIs(is_job(made), True)
                self.assertEqual(made[0], tuple(sorted(row)))
                self.assertEqual(renamed_job(made, tuple(zip(row, job[0]))), job)
                self.assertEqual(len(rings(made)), len(rings(job)))

    def test_with_places(self):
        self.assertEqual(with_places(JOB, ("aa", "x")), (("a", "aa", "b", "c", "d", "t", "x"), JOB[1]))
        self.assertEqual(with_places(JOB, ()), JOB)
        self.assertEqual(free_places(with_places(SCRAP, ("a",))), ("a",))


if __name__ == "__main__":
    unittest.main()
