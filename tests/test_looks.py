"""Looks that tell the moment of a PLAN ([12])."""

import unittest
from functools import lru_cache
from itertools import combinations
from random import Random

from namesalone.errors import NoName
from namesalone.looks import a_tree, fewest_looks, is_tree, is_watch, moment_by, moments_with, tree_depth, watch
from tests.support import (EMPTY, FAR, JOB, LONE, PLAN, SCRAP, STRANGE, as_lists, bent, drawn_plan, far_from_end,
                           job_of,
                           shows_no_sight_twice, sights_shown, small_jobs, start_of, walked_plan, with_one_list)

TREE = ("c", ("a", 0, ("d", 4, 3)), ("a", 1, 2))
BLIND = (("c", "t"), ("d", "c"), ("t", "d"), ("a", "b"))
DONE = (("a", "b"), (("a", "a"),))
NAMES12 = tuple("abcdefghijkl")
# JOBS of 12 places whose fewest PLANS have up to 9 MOVES.
WIDE = tuple(job_of(*row, names=NAMES12) for row in (
    ((), ((9, False),), 0, 2), ((), ((9, True),), 2, 1), ((2, 2), ((3, False),), 2, 2), ((3, 2), ((2, True),), 3, 2),
    ((2,), ((1, False), (2, True)), 2, 2), ((), ((1, True),) * 9, 3, 0), ((2, 2, 2), (), 2, 4),
                                                     ((7,), ((1, False),), 1, 2),
))


def drawn_cases(draw, many=1):
    """JOBS and PLANS of at most 9 MOVES, readable ones and others."""
    for job in [job for job in list(small_jobs())[::3] + [JOB, FAR, SCRAP, LONE] if start_of(job) in far_from_end(job)]:
        for _ in range(many):
            yield job, walked_plan(job, draw, draw.randint(0, 4))
    for job in WIDE:
        for _ in range(many):
            yield job, drawn_plan(job, draw)


def told_apart(shown, some):
    """Whether of each two moments one of some places is full at just one of them, by the words."""
    return all(any((place in one) != (place in other) for place in some) for one, other in combinations(shown, 2))


@lru_cache(maxsize=None)
def least_looks(places, shown):
    """How many looks tell all these SIGHTS apart: over all ways to part them by one place, and their parts too."""
    if len(shown) < 2:
        return 0
    parts = [(tuple(full for full in shown if place in full), tuple(full for full in shown if place not in full))
             for place in places]
    return min([1 + max(least_looks(places, one), least_looks(places, other)) for one, other in parts if one and other])


def ways_down(tree, many=0):
    """How many looks each way down has."""
    if isinstance(tree, int):
        return [many]
    return ways_down(tree[1], many + 1) + ways_down(tree[2], many + 1)


def led_to(tree, sight):
    return tree if isinstance(tree, int) else led_to(tree[1] if tree[0] in sight else tree[2], sight)


def is_any_tree(places, thing):
    """Whether thing is a TREE with these places, by the words of the document."""
    if isinstance(thing, int):
        return thing is not True and thing is not False
    if not isinstance(thing, tuple) or len(thing) != 3 or not isinstance(thing[0], str) or thing[0] not in places:
        return False
    return is_any_tree(places, thing[1]) and is_any_tree(places, thing[2])


def wanted_tree(job, plan, thing):
    if not is_any_tree(job[0], thing):
        return False
    return [led_to(thing, full) for full in sights_shown(job, plan)] == list(range(len(plan) + 1))


def drawn_tree(draw, names, depth):
    if depth == 0 or draw.random() < 0.2:
        return draw.choice((0, 7, -3, 10 ** 40, -10 ** 40))
    return draw.choice(names), drawn_tree(draw, names, depth - 1), drawn_tree(draw, names, depth - 1)


class MomentsWith(unittest.TestCase):
    def test_every_place(self):
        for job, plan in drawn_cases(Random(1)):
            for place in job[0]:
                wanted = [at for at, full in enumerate(sights_shown(job, plan)) if place in full]
                self.assertEqual(moments_with(job, plan, place), tuple(wanted))

    def test_no_place(self):
        for name in ("x", "zz", "abcdefgh"):
            with self.assertRaises(NoName) as held:
                moments_with(JOB, PLAN, name)
            self.assertEqual(held.exception.name, name)

    def test_the_plan_of_no_move(self):
        self.assertEqual(moments_with(DONE, (), "a"), (0,))
        self.assertEqual(moments_with(DONE, (), "b"), ())


class Watch(unittest.TestCase):
    def test_against_all_sets_of_places(self):
        found = []
        for job, plan in drawn_cases(Random(3)):
            shown, enough = sights_shown(job, plan), None
            for many in range(len(job[0]) + 1):
                for some in combinations(job[0], many):
                    wanted = told_apart(shown, some)
                    if len(job[0]) < 6 or many in (2, 3, 12):
                        self.assertIs(is_watch(job, plan, some), wanted, (job, plan, some))
                    if wanted and enough is None:
                        enough = some
            self.assertEqual(watch(job, plan), enough, (job, plan))
            self.assertEqual(enough is None, not shows_no_sight_twice(job, plan))
            found.append(None if enough is None else len(enough))
        self.assertTrue({None, 0, 1, 2, 3, 4} <= set(found), set(found))

    def test_all_places_together(self):
        for job, plan in drawn_cases(Random(4)):
            self.assertIs(is_watch(job, plan, job[0]), shows_no_sight_twice(job, plan))
            self.assertIs(is_watch(job, plan, ()), plan == ())

    def test_the_least_of_several_sets(self):
        job = (("a", "b", "c"), (("a", "c"),))
        self.assertEqual([is_watch(job, (("a", "c"),), (place,)) for place in "abc"], [True, False, True])
        self.assertEqual(watch(job, (("a", "c"),)), ("a",))
        # The first place is not always among as few as can be.
        other = (("a", "b", "c"), (("a", "a"), ("b", "c")))
        self.assertEqual(watch(other, (("b", "c"),)), ("b",))

    def test_a_plan_of_no_move_and_one_that_is_not_readable(self):
        self.assertEqual(watch(EMPTY, ()), ())
        self.assertEqual(watch(DONE, ()), ())
        self.assertIsNone(watch(JOB, BLIND))
        self.assertIs(is_watch(JOB, BLIND, JOB[0]), False)
        self.assertIsNone(watch(DONE, (("a", "b"), ("b", "a"))))


class Trees(unittest.TestCase):
    def test_against_all_ways_to_part_the_moments(self):
        found = []
        for job, plan in drawn_cases(Random(5)):
            shown = tuple(sights_shown(job, plan))
            wanted = least_looks(job[0], shown) if shows_no_sight_twice(job, plan) else None
            self.assertEqual(fewest_looks(job, plan), wanted, (job, plan))
            self.check(job, plan, wanted)
            found.append(wanted)
        self.assertTrue({None, 0, 1, 2, 3, 4, 9} <= set(found), set(found))

    def check(self, job, plan, looks):
        tree = a_tree(job, plan)
        if looks is None:
            self.assertIsNone(tree)
        else:
            self.assertEqual(max(ways_down(tree)), looks)
            self.assertEqual(tree_depth(tree), looks)
            self.assertIs(wanted_tree(job, plan, tree), True)
            self.assertIs(is_tree(job, plan, tree), True)

    def test_where_one_place_splits_the_moments_well_and_where_none_does(self):
        # Boxes that go away one by one halve the moments; where one hole goes along a row each look tells one.
        away = job_of((), ((1, True),) * 9, 3, 0, names=NAMES12)
        self.assertEqual(fewest_looks(away, drawn_plan(away, Random(1))), 4)
        row = job_of((), ((9, False),), 0, 2, names=NAMES12)
        plan = drawn_plan(row, Random(1))
        self.assertEqual(fewest_looks(row, plan), 9)
        self.assertEqual(least_looks(row[0], tuple(sights_shown(row, plan))), 9)

    def test_the_plan_of_no_move(self):
        for job in (EMPTY, DONE, WIDE[0][:1] + ((),)):
            self.assertEqual(fewest_looks(job, ()), 0)
            self.assertEqual(a_tree(job, ()), 0)
            self.assertIs(is_tree(job, (), 0), True)
            self.assertIs(is_tree(job, (), 1), False)
            self.assertIs(is_tree(job, (), ("a", 0, 0)), True)

    def test_not_readable(self):
        self.assertIsNone(fewest_looks(JOB, BLIND))
        self.assertIsNone(a_tree(JOB, BLIND))
        for tree in (TREE, 0, a_tree(JOB, PLAN)):
            self.assertIs(is_tree(JOB, BLIND, tree), False)


class IsTree(unittest.TestCase):
    def test_bent_trees(self):
        right = 0
        for thing in bent(TREE):
            wanted = wanted_tree(JOB, PLAN, thing)
            self.assertIs(is_tree(JOB, PLAN, thing), wanted, thing)
            right += wanted
        self.assertGreater(right, 0)

    def test_trees_of_other_plans(self):
        draw, found = Random(7), []
        cases = [case for case in drawn_cases(draw, 2) if shows_no_sight_twice(*case)]
        trees = [a_tree(*case) for case in cases][::4]
        for job, plan in cases:
            for tree in trees:
                wanted = wanted_tree(job, plan, tree)
                self.assertIs(is_tree(job, plan, tree), wanted, (job, plan, tree))
                found.append(wanted)
        self.assertGreater(found.count(True), 40)
        self.assertGreater(found.count(False), 1000)

    def test_more_looks_than_needed_and_places_twice_on_a_way(self):
        rows = (("b", TREE, TREE), ("c", ("c", TREE, 99), ("c", 98, TREE)), ("t", ("t", TREE, 0), TREE),
                ("c", ("a", 0, ("d", 4, 3)), ("a", ("b", 77, 1), ("b", 2, -10 ** 41))))
        for tree in rows:
            self.assertIs(is_tree(JOB, PLAN, tree), True, tree)
        for tree in (("c", TREE[2], TREE[1]), ("c", ("c", 99, TREE), TREE), ("b", TREE, 0), ("c", 0, ("a", 1, 2))):
            self.assertIs(is_tree(JOB, PLAN, tree), False, tree)
        tree = TREE
        for place in "abcdtabcd":
            tree = (place, tree, tree)
        self.assertIs(is_tree(JOB, PLAN, tree), True)
        self.assertEqual(tree_depth(tree), 12)

    def test_things_where_no_way_leads(self):
        # No moment leads to what stands there; it must be a TREE with places of the JOB all the same.
        for thing, wanted in ((77, True), (-10 ** 41, True), (("a", 0, 0), True), (("x", 0, 0), False), (True, False),
                              (None, False), ("c", False), ((), False), (["c", 0, 0], False), (("c", 0), False),
                              (("c", 0, 0, 0), False), ((0, 0, 0), False), (((), 0, 0), False), ((["c"], 0, 0), False),
                              (("c", 0, "0"), False), (("c", (True, 0, 0), 0), False), (((("c",), 0, 0), 0, 0), False)):
            self.assertIs(is_tree(JOB, PLAN, ("c", ("c", TREE[1], thing), TREE[2])), wanted, thing)

    def test_lists_and_strange_things(self):
        for thing in with_one_list(TREE):
            self.assertIs(is_tree(JOB, PLAN, thing), False, thing)
        for thing in STRANGE:
            self.assertIs(is_tree(JOB, PLAN, thing), False, thing)
            self.assertIs(is_tree(EMPTY, (), thing), thing is not False and thing == 0, thing)
        for thing in (("c", ("a", False, ("d", 4, 3)), ("a", True, 2)), ("c", ("a", 0, ("d", 4, 3)), ("a", True, 2))):
            self.assertIs(is_tree(JOB, PLAN, thing), False)
        self.assertIs(is_tree(as_lists(JOB), as_lists(PLAN), TREE), True)


class Through(unittest.TestCase):
    def test_trees_of_any_names(self):
        draw = Random(9)
        names = ("a", "zz", "abcdefgh", "full", "x")
        for depth in (0, 1, 2, 5, 8):
            for _ in range(20):
                tree = drawn_tree(draw, names, depth)
                self.assertEqual(tree_depth(tree), max(ways_down(tree)))
                self.assertEqual(tree_depth(as_lists(tree)), max(ways_down(tree)))
                for _ in range(5):
                    sight = tuple(sorted(draw.sample(names, draw.randint(0, 5))))
                    self.assertEqual(moment_by(tree, sight), led_to(tree, sight))
                    self.assertEqual(moment_by(as_lists(tree), list(sight)), led_to(tree, sight))

    def test_twelve_looks(self):
        tree = 5
        for name in "abcdefghijkl":
            tree = (name, tree, -1)
        self.assertEqual(tree_depth(tree), 12)
        self.assertEqual(moment_by(tree, NAMES12), 5)
        self.assertEqual(moment_by(tree, NAMES12[1:]), -1)
        self.assertEqual(moment_by(tree, ()), -1)
        self.assertEqual(tree_depth(("a", 0, tree)), 13)

    def test_one_way_longer_than_the_other(self):
        self.assertEqual([tree_depth(tree) for tree in (7, ("a", 0, 1), ("a", ("b", 0, 1), 2), ("a", 0, ("b", 1, 2)))],
                         [0, 1, 2, 2])
        self.assertEqual(moment_by(7, ()), 7)
        self.assertEqual(moment_by(("a", 0, 1), ("a",)), 0)
        self.assertEqual(moment_by(("a", 0, 1), ("b",)), 1)

    def test_each_moment_by_its_tree(self):
        for job, plan in drawn_cases(Random(11)):
            if shows_no_sight_twice(job, plan):
                tree = a_tree(job, plan)
                found = [moment_by(tree, full) for full in sights_shown(job, plan)]
                self.assertEqual(found, list(range(len(plan) + 1)))


if __name__ == "__main__":
    unittest.main()
