"""Sizes ([14])."""

import unittest
from functools import lru_cache
from random import Random

from namesalone.errors import NoName, NoPlan
from namesalone.fewest import is_fewest
from namesalone.jobs import with_places
from namesalone.moves import is_plan
from namesalone.sizes import (a_plan_by_sizes, can_be_done_by, fits, hole_of, is_plan_by_sizes, is_sizes, opening,
                              place_needed, shut_rings)
from tests.support import (EMPTY, FAR, GREAT_JOBS, JOB, LONE, SCRAP, STRANGE, STUCK, WIDER_JOBS, as_lists, bent,
                           drawn_plan, far_from_end, fewest_plans, gone_on, job_of, rings_of, small_jobs,
                           stands_behind, start_of, walked_plan, ways_on, with_one_list)

SMALL = list(small_jobs())
TWO = (("c", "d", "e", "f", "t"), (("c", "d"), ("d", "c"), ("e", "f"), ("f", "e")))
SIZES = ((("c", 2), ("d", 2), ("e", 3), ("f", 3), ("t", 1)), (("c", 1), ("d", 2), ("e", 2), ("f", 3)))
TIGHT = (SIZES[0][:2] + (("e", 5), ("f", 5), ("t", 1)), SIZES[1][:2] + (("e", 4), ("f", 5)))
NESTED = (("c", "t"), ("d", "c"), ("e", "d"), ("f", "e"), ("d", "f"), ("t", "d"))
WIDER = WIDER_JOBS + tuple(job_of(*row, names="abcdefgh") for row in (
    ((2, 2, 2), (), 0, 1), ((2, 3), ((1, False),), 0, 0), ((2, 2), ((3, True),), 0, 0), ((3, 3), (), 0, 1),
    ((2, 2), ((2, False),), 0, 1), ((2, 2), ((2, False),), 0, 0), ((4, 2), (), 0, 1), ((2,), ((4, True),), 0, 0),
    ((2, 2), ((1, True), (1, True)), 1, 0), ((3, 2), (), 0, 2),
))


def sized(job, wide, draw):
    """SIZES of the JOB with these numbers of the places, those of the boxes drawn as far as they fit."""
    thick = []
    for box, end in job[1]:
        top = min(wide[box], wide[end]) if end else wide[box]
        thick.append((box, draw.choice((top, top, draw.randint(0, top)))))
    return tuple((place, wide[place]) for place in job[0]), tuple(thick)


def drawn_sizes(job, draw, many):
    for at in range(many):
        top = (1, 3, 6, 20)[at % 4]
        wide = {place: draw.randint(0, top) for place in job[0]}
        # A small hole leaves RINGS shut.
        wide.update({place: draw.randint(0, top // 2) for place in room_places(job) if at % 3})
        yield sized(job, wide, draw)
    # Free places and those of CHAINS small, those of the RINGS one greater than the other.
    wide = {place: 0 for place in job[0]}
    for number, row in enumerate(rings_of(job)):
        wide.update({place: 2 * number + draw.randint(0, 2) for place in row})
    yield sized(job, wide, draw)


def cases(jobs, many=4, seed=1):
    draw = Random(seed)
    for job in jobs:
        for sizes in drawn_sizes(job, draw, many):
            yield job, sizes


def by_sizes(job, sizes, plan):
    """Whether in this PLAN each box moves only to places that it fits, by the words."""
    wide, thick = dict(sizes[0]), dict(sizes[1])
    stands = stands_behind(job, plan)
    return all(other is None or thick[dict(stand)[place]] <= wide[other]
               for stand, (place, other) in zip(stands, plan))


def some_fewest_by_sizes(job, sizes):
    """Whether some fewest PLAN is by sizes: a search through all of them, MOVE by MOVE."""
    wide, thick = dict(sizes[0]), dict(sizes[1])

    @lru_cache(maxsize=None)
    def goes_on(full, whole):
        ways = ways_on(job, dict(full), whole)
        if not ways:
            return all(box in dict(job[1]) and dict(job[1])[box] == place for place, box in full)
        for place, other in ways:
            if other is None or thick[dict(full)[place]] <= wide[other]:
                left, rest = gone_on(dict(full), list(whole), (place, other))
                if goes_on(tuple(sorted(left.items())), tuple(rest)):
                    return True
        return False
    return goes_on(start_of(job), tuple(rings_of(job)))


def room_places(job):
    """The places that are free at first, or of a CHAIN."""
    goal, in_rings = dict(job[1]), {box for row in rings_of(job) for box in row}
    return [place for place in job[0] if place not in in_rings and goal.get(place) != place]


def opened(job, sizes, hole):
    """By the words of the document: the RINGS as they are opened, the least one first, and the numbers."""
    wide, thick = dict(sizes[0]), dict(sizes[1])
    left, found = rings_of(job), []
    while hole is not None:
        ready = [row for row in left if any(thick[box] <= hole for box in row)]
        if not ready:
            break
        left.remove(min(ready))
        hole = max([hole] + [wide[place] for place in min(ready)])
        found.append((min(ready), hole))
    return tuple(found)


def hole(job, sizes):
    return max([number for place, number in sizes[0] if place in room_places(job)], default=None)


def enough(job, sizes, number):
    """Whether with one more free place of this number there is a fewest PLAN by sizes, found by a search."""
    more = with_places(job, ("zz",))
    return some_fewest_by_sizes(more, (tuple(sorted(sizes[0] + (("zz", number),))), sizes[1]))


class IsSizes(unittest.TestCase):
    def right(self, job, thing):
        """By the words of the document, thing being a pair of tuples of pairs."""
        wide, thick = thing
        if [pair[0] for pair in wide] != list(job[0]) or [pair[0] for pair in thick] != [pair[0] for pair in job[1]]:
            return False
        numbers = [pair[1] for pair in wide + thick]
        if not all([isinstance(number, int) and not isinstance(number, bool) and number >= 0 for number in numbers]):
            return False
        return all([dict(thick)[box] <= dict(wide)[place] for box, end in job[1] for place in (box, end) if place])

    def test_each_number_too_small_by_one(self):
        tried = 0
        for job, sizes in cases(SMALL[::3] + list(WIDER) + list(GREAT_JOBS[:8])):
            self.assertIs(is_sizes(job, sizes), True)
            wide, thick = dict(sizes[0]), dict(sizes[1])
            for place in job[0]:
                least = max([thick[box] for box, end in job[1] if place in (box, end)], default=0)
                for number in (least, least - 1):
                    other = tuple(sorted({**wide, place: number}.items()))
                    self.assertIs(is_sizes(job, (other, sizes[1])), number == least, (job, other, sizes))
                    tried += 1
            for box, end in job[1]:
                most = min(wide[box], wide[end] if end else wide[box])
                for number in (most, most + 1, 0, -1):
                    other = tuple(sorted({**thick, box: number}.items()))
                    self.assertIs(is_sizes(job, (sizes[0], other)), 0 <= number <= most)
        self.assertGreater(tried, 1000)

    def test_bent_sizes(self):
        for job, sizes in ((LONE, ((("c", 2), ("d", 2), ("t", 0)), (("c", 1), ("d", 2)))), (TWO, SIZES),
                           (SCRAP, ((("p", 2), ("q", 3)), (("p", 1), ("q", 3)))), (EMPTY, ((("a", 0),), ()))):
            right = 0
            for thing in bent(sizes):
                wanted = self.are_pairs(thing) and self.right(job, thing)
                self.assertIs(is_sizes(job, thing), wanted, thing)
                right += wanted
            self.assertGreater(right, 1)

    def are_pairs(self, thing):
        if not isinstance(thing, tuple) or len(thing) != 2 or not all([isinstance(part, tuple) for part in thing]):
            return False
        return all([isinstance(pair, tuple) and len(pair) == 2 for part in thing for pair in part])

    def test_strange_things_and_lists(self):
        for thing in STRANGE + (((), ()), (((("a", 0),),),), ((("a", 0),), (), ())):
            self.assertIs(is_sizes(LONE, thing), False, thing)
            self.assertIs(is_sizes(EMPTY, ((("a", thing),), ())), type(thing) is int and thing >= 0, thing)
            self.assertIs(is_sizes(EMPTY, (thing, ())), False, thing)
        for thing in with_one_list(SIZES):
            self.assertIs(is_sizes(TWO, thing), False, thing)
        for number in (True, False, -1, "1", None, (1,), [1]):
            self.assertIs(is_sizes(TWO, (SIZES[0][:4] + (("t", number),), SIZES[1])), False)
            self.assertIs(is_sizes(TWO, (SIZES[0], (("c", number),) + SIZES[1][1:])), False)
        self.assertIs(is_sizes(as_lists(TWO), SIZES), True)

    def test_missing_ones_more_and_another_order(self):
        wide, thick = SIZES
        for thing in ((wide[1:], thick), (wide[:-1], thick), (wide, thick[1:]), (wide, thick[:-1]), (wide[::-1], thick),
                      (wide, thick[::-1]), (wide + (("x", 3),), thick), (wide, thick + (("t", 1),)), (thick, wide),
                      (wide[:1] + wide, thick), (wide, thick[:1] + thick)):
            self.assertIs(is_sizes(TWO, thing), False, thing)

    def test_great_numbers(self):
        wide = tuple((place, 10 ** 60) for place in JOB[0])
        self.assertIs(is_sizes(JOB, (wide, tuple((box, 10 ** 60) for box, _ in JOB[1]))), True)
        self.assertIs(is_sizes(JOB, (wide, tuple((box, 10 ** 60 + 1) for box, _ in JOB[1]))), False)


class Fits(unittest.TestCase):
    def test_every_box_and_place(self):
        for job, sizes in cases(SMALL[::5] + list(WIDER)):
            for box, number in sizes[1]:
                for place, other in sizes[0]:
                    self.assertIs(fits(job, sizes, box, place), number <= other)

    def test_no_box_and_no_place(self):
        for box, place, name in (("t", "c", "t"), ("zz", "c", "zz"), ("c", "zz", "zz"), ("t", "zz", "t"),
                                 ("x", "y", "x"),
                                 ("c", "x", "x")):
            with self.assertRaises(NoName) as held:
                fits(TWO, SIZES, box, place)
            self.assertEqual(held.exception.name, name)


class Opening(unittest.TestCase):
    def test_hole_opening_and_shut_rings_by_the_words(self):
        found = []
        for job, sizes in cases(SMALL + list(WIDER) + list(GREAT_JOBS), 8, 3):
            self.assertEqual(hole_of(job, sizes), hole(job, sizes))
            wanted = opened(job, sizes, hole(job, sizes))
            self.assertEqual(opening(job, sizes), wanted, (job, sizes))
            shut = tuple(row for row in rings_of(job) if row not in dict(wanted))
            self.assertEqual(shut_rings(job, sizes), shut)
            self.assertIs(can_be_done_by(job, sizes), not shut)
            found.append((len(wanted), len(shut)))
        for pair in ((1, 1), (0, 1), (1, 0), (2, 0), (0, 2)):
            self.assertGreater(found.count(pair), 5, pair)

    def test_no_hole(self):
        for job in (STUCK, GREAT_JOBS[0], GREAT_JOBS[13], (("a",), (("a", "a"),))):
            sizes = tuple((place, 9) for place in job[0]), tuple((box, 0) for box, _ in job[1])
            self.assertIsNone(hole_of(job, sizes))
            self.assertEqual(opening(job, sizes), ())
            self.assertEqual(shut_rings(job, sizes), tuple(rings_of(job)))

    def test_a_hole_of_0(self):
        sizes = ((("c", 3), ("d", 3), ("t", 0)), (("c", 0), ("d", 3)))
        self.assertEqual((hole_of(LONE, sizes), opening(LONE, sizes)), (0, ((("c", "d"), 3),)))
        more = (sizes[0], (("c", 1), ("d", 3)))
        self.assertEqual((hole_of(LONE, more), opening(LONE, more), shut_rings(LONE, more)), (0, (), (("c", "d"),)))

    def test_places_of_chains_are_among_the_hole(self):
        # The first box, one between, the last one, where it goes, a thrown one; not one that stays.
        job = job_of((2,), ((3, False),), 1, 1, names="abcdefgh")
        used = {place for pair in job[1] for place in pair if pair[0] == pair[1] or pair[0] in rings_of(job)[0]}
        for place in job[0]:
            sizes = tuple((own, 5 if own == place else 1) for own in job[0]), tuple((box, 0) for box, _ in job[1])
            self.assertEqual(hole_of(job, sizes), 1 if place in used else 5)
        sizes = ((("a", 4), ("b", 4), ("c", 9)), (("a", 4), ("b", 4), ("c", 9)))
        away = (("a", "b", "c"), (("a", "b"), ("b", "a"), ("c", None)))
        self.assertEqual((hole_of(away, sizes), opening(away, sizes)), (9, ((("a", "b"), 9),)))

    def test_always_the_least_ring_that_opens(self):
        # The last RING opens at first alone and lets the second one open, then the first one.
        job = job_of((2, 2, 2), (), 0, 1, names="abcdefg")
        sizes = ((("a", 9), ("b", 9), ("c", 6), ("d", 6), ("e", 3), ("f", 2), ("g", 1)),
                 (("a", 5), ("b", 9), ("c", 6), ("d", 3), ("e", 2), ("f", 1)))
        self.assertEqual(opening(job, sizes), ((("e", "f"), 3), (("c", "d"), 6), (("a", "b"), 9)))
        other = ((("a", 2), ("b", 9), ("c", 6), ("d", 6), ("e", 3), ("f", 2), ("g", 1)),
                 (("a", 2), ("b", 2), ("c", 6), ("d", 3), ("e", 2), ("f", 1)))
        self.assertEqual(opening(job, other), ((("e", "f"), 3), (("a", "b"), 9), (("c", "d"), 9)))


class CanBeDoneBy(unittest.TestCase):
    def test_against_all_fewest_plans(self):
        found = []
        for job, sizes in cases(SMALL + [JOB, FAR, LONE, TWO, STUCK], 4, 5):
            wanted = any(by_sizes(job, sizes, plan) for plan in fewest_plans(job))
            self.assertIs(can_be_done_by(job, sizes), wanted, (job, sizes))
            self.assertIs(some_fewest_by_sizes(job, sizes), wanted)
            found.append(wanted)
        self.assertGreater(found.count(False), 100)
        self.assertGreater(found.count(True), 100)

    def test_wider_jobs_against_a_search(self):
        found = []
        for job, sizes in cases(WIDER, 12, 7):
            wanted = some_fewest_by_sizes(job, sizes)
            self.assertIs(can_be_done_by(job, sizes), wanted, (job, sizes))
            found.append(wanted)
        self.assertGreater(found.count(False), 50)
        self.assertGreater(found.count(True), 50)


class APlanBySizes(unittest.TestCase):
    def check(self, job, sizes):
        if not can_be_done_by(job, sizes):
            with self.assertRaises(NoPlan):
                a_plan_by_sizes(job, sizes)
            return False
        plan = a_plan_by_sizes(job, sizes)
        self.assertIs(is_fewest(job, plan), True, (job, sizes, plan))
        self.assertEqual(len(plan), len([pair for pair in job[1] if pair[0] != pair[1]]) + len(rings_of(job)))
        self.assertIs(by_sizes(job, sizes, plan), True, (job, sizes, plan))
        self.assertIs(is_plan_by_sizes(job, sizes, plan), True)
        return len(rings_of(job))

    def test_small_jobs(self):
        self.assertGreater(sum([self.check(*case) for case in cases(SMALL, 6, 9)]), 100)

    def test_wider_jobs(self):
        self.assertGreater(sum([self.check(*case) for case in cases(WIDER, 40, 11)]), 500)

    def test_great_jobs(self):
        self.assertGreater(sum([self.check(*case) for case in cases(GREAT_JOBS, 8, 13)]), 100)

    def test_great_jobs_that_open_one_ring_behind_another(self):
        draw = Random(15)
        for room in ((((1, True),), 0), (((3, False),), 0), (((4, True),), 1), ((), 1)):
            chains, free = room
            job = job_of((2, 4, 3, 5, 2, 3), chains, 0, free)
            rows = rings_of(job)
            draw.shuffle(rows)
            wide = {place: draw.randint(0, 3) for place in job[0]}
            wide[room_places(job)[-1]] = 4
            thick = {box: min(wide[box], wide[end] if end else wide[box]) for box, end in job[1]}
            for number, row in enumerate(rows, 1):
                # Just one box of each RING fits what the one ahead of it leaves, just one place is wide.
                wide.update({place: 10 * number + 6 for place in row})
                thick.update({box: 10 * number + 5 for box in row})
                wide[draw.choice(row)] = 10 * number + 8
                thick[draw.choice(row)] = 10 * number - 2 if number > 1 else 4
            sizes = tuple(sorted(wide.items())), tuple(sorted(thick.items()))
            self.assertIs(is_sizes(job, sizes), True)
            self.assertEqual([row for row, _ in opening(job, sizes)], rows)
            self.assertEqual(self.check(job, sizes), 6)

    def test_no_plan(self):
        with self.assertRaises(NoPlan):
            a_plan_by_sizes(TWO, TIGHT)
        with self.assertRaises(NoPlan):
            a_plan_by_sizes(STUCK, ((("c", 1), ("d", 1)), (("c", 0), ("d", 0))))
        self.assertEqual(a_plan_by_sizes(EMPTY, ((("a", 0),), ())), ())
        self.assertEqual(a_plan_by_sizes((("a",), (("a", "a"),)), ((("a", 2),), (("a", 1),))), ())


class IsPlanBySizes(unittest.TestCase):
    def test_all_plans_of_small_jobs(self):
        draw, found = Random(17), []
        for job, sizes in cases([job for job in SMALL if start_of(job) in far_from_end(job)], 3, 17):
            for many in (0, 1, 3):
                plan = walked_plan(job, draw, many)
                wanted = by_sizes(job, sizes, plan)
                self.assertIs(is_plan_by_sizes(job, sizes, plan), wanted, (job, sizes, plan))
                short = plan[:-1]
                self.assertIs(is_plan_by_sizes(job, sizes, short), is_plan(job, short) and by_sizes(job, sizes, short))
                found.append(wanted)
        self.assertGreater(found.count(False), 200)
        self.assertGreater(found.count(True), 200)

    def test_great_jobs(self):
        for job, sizes in cases([job for job in GREAT_JOBS if room_places(job)], 2, 19):
            plan = drawn_plan(job, Random(2))
            self.assertIs(is_plan_by_sizes(job, sizes, plan), by_sizes(job, sizes, plan))

    def test_things_that_are_no_plan(self):
        for thing in STRANGE + (NESTED[:-1], NESTED[1:], list(NESTED), NESTED + (("c", "d"),), NESTED[::-1]):
            self.assertIs(is_plan_by_sizes(TWO, SIZES, thing), False, thing)
        for thing in with_one_list(NESTED):
            self.assertIs(is_plan_by_sizes(TWO, SIZES, thing), False, thing)
        for sizes in (SIZES, (SIZES[0][:4] + (("t", 0),), SIZES[1])):
            for thing in bent(NESTED):
                wanted = is_plan(TWO, thing) and by_sizes(TWO, sizes, thing)
                self.assertIs(is_plan_by_sizes(TWO, sizes, thing), wanted, thing)

    def test_throwing_away_needs_no_room(self):
        sizes = ((("p", 3), ("q", 3)), (("p", 3), ("q", 3)))
        self.assertIs(is_plan_by_sizes(SCRAP, sizes, (("q", None), ("p", "q"))), True)
        more = (("p", "q", "t"), SCRAP[1])
        wide = sizes[0] + (("t", 2),)
        self.assertIs(is_plan_by_sizes(more, (wide, sizes[1]), (("q", "t"), ("p", "q"), ("t", None))), False)
        self.assertIs(is_plan_by_sizes(more, (wide, (("p", 3), ("q", 2))), (("q", "t"), ("p", "q"), ("t", None))), True)

    def test_more_moves_than_the_fewest(self):
        turn = (("c", "t"), ("t", "c")) * 60
        self.assertIs(is_plan_by_sizes(TWO, SIZES, turn + NESTED), True)
        self.assertIs(is_plan_by_sizes(TWO, SIZES, (("d", "t"), ("t", "d")) + NESTED), False)


class PlaceNeeded(unittest.TestCase):
    def test_against_a_search(self):
        found = []
        for job, sizes in cases([job for job in SMALL if rings_of(job)] + list(WIDER) + [LONE, TWO, STUCK], 6, 21):
            number = place_needed(job, sizes)
            if some_fewest_by_sizes(job, sizes):
                self.assertEqual(number, 0)
                found.append("done")
            else:
                self.assertIs(enough(job, sizes, number), True, (job, sizes))
                self.assertIs(number > 0 and enough(job, sizes, number - 1), False, (job, sizes))
                found.append("more" if number else "least")
        for word in ("done", "more", "least"):
            self.assertGreater(found.count(word), 10, word)

    def test_great_jobs_by_the_words(self):
        for job, sizes in cases(GREAT_JOBS, 8, 23):
            number, many = place_needed(job, sizes), len(rings_of(job))
            first = hole(job, sizes)
            if len(opened(job, sizes, first)) == many:
                self.assertEqual(number, 0)
            else:
                first = -1 if first is None else first
                self.assertEqual(len(opened(job, sizes, max(first, number))), many)
                self.assertLess(len(opened(job, sizes, max(first, number - 1))), many)

    def test_great_numbers(self):
        wide = ((("c", 10 ** 40), ("d", 10 ** 40), ("t", 5)), (("c", 10 ** 40), ("d", 10 ** 40 - 7)))
        self.assertEqual(place_needed(LONE, wide), 10 ** 40 - 7)
        self.assertEqual(place_needed(STUCK, ((("c", 9), ("d", 9)), (("c", 0), ("d", 8)))), 0)
        self.assertEqual(place_needed(TWO, TIGHT), 4)

    def test_one_ring_that_opens_lets_the_other_one_open(self):
        job = job_of((2, 2), (), 0, 0, names="abcd")
        sizes = ((("a", 9), ("b", 9), ("c", 4), ("d", 4)), (("a", 4), ("b", 9), ("c", 2), ("d", 4)))
        self.assertEqual(place_needed(job, sizes), 2)
        self.assertEqual(place_needed(job, (sizes[0], (("a", 5), ("b", 9), ("c", 2), ("d", 4)))), 5)


if __name__ == "__main__":
    unittest.main()
