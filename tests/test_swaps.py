"""Exchanges ([13])."""

import unittest
from itertools import combinations
from random import Random

from namesalone.errors import Impossible, NoPlan
from namesalone.kinds import sights_by
from namesalone.swaps import (a_few_steps, are_fewest_steps, are_steps, blind_steps, blind_steps_by, fewest_steps,
                              fewest_steps_with, how_many_swaps, some_steps_with, step_after, swaps_for)
from tests.support import (EMPTY, FAR, GREAT_JOBS, JOB, LONE, PLAN, SCRAP, STRANGE, STUCK, WIDER_JOBS, as_lists, bent,
                           drawn_plan, end_of, far_from_end, full_at, job_of, kinds_at, moves_from, rings_of,
                           small_jobs, stands_of, start_of, with_one_list)

SMALL = list(small_jobs())
FIVE = (("c", "d", "e", "f", "g", "t"), (("c", "d"), ("d", "c"), ("e", "f"), ("f", "g"), ("g", "e")))
SWAPPED = (("swap", "c", "d"),)
FULL = (("a", "b", "c", "d", "e"), (("a", "b"), ("b", "a"), ("c", "d"), ("d", "e"), ("e", "c")))
SEARCHED = SMALL + list(WIDER_JOBS) + [JOB, FAR, SCRAP, LONE, STUCK, FIVE, FULL, EMPTY]


def steps_from(job, stand):
    """The pairs of each STEP that is possible in the STAND and the STAND behind it, by the words."""
    yield from moves_from(job, stand)
    held = dict(stand)
    for one, other in combinations(sorted(held), 2):
        yield ("swap", one, other), tuple(sorted({**held, one: held[other], other: held[one]}.items()))


def stand_behind(job, stand, step):
    """The STAND behind the STEP, by the words, None if it is not possible."""
    if len(step) != 3:
        return dict(moves_from(job, stand)).get(step)
    word, one, other = step
    held = dict(stand)
    if word != "swap" or one not in held or other not in held or not one < other:
        return None
    held[one], held[other] = held[other], held[one]
    return tuple(sorted(held.items()))


def behind_steps(job, steps):
    """The STANDS ahead of all STEPS and behind each one; None if one is not possible."""
    found = [start_of(job)]
    for step in steps:
        found.append(stand_behind(job, found[-1], step))
        if found[-1] is None:
            return None
    return found


def leads_right(job, steps):
    found = behind_steps(job, steps)
    return found is not None and found[-1] == end_of(job)


def swaps_in(steps):
    return len([step for step in steps if step[0] == "swap" and len(step) == 3])


def least_by_swaps(job, most):
    """For each number of exchanges up to most: how many STEPS with just so many lead to the end at the least."""
    far, row = {(start_of(job), 0): 0}, [(start_of(job), 0)]
    for stand, many in row:
        for step, other in steps_from(job, stand):
            spot = (other, many + (len(step) == 3))
            if spot[1] <= most and spot not in far:
                far[spot] = far[stand, many] + 1
                row.append(spot)
    return [far.get((end_of(job), many)) for many in range(most + 1)]


def at_most(found):
    """The same for at most so many exchanges."""
    return [min([least for least in found[:at + 1] if least is not None], default=None) for at in range(len(found))]


def needed(job):
    """How many exchanges make all RINGS."""
    return sum(len(row) - 1 for row in rings_of(job))


def by_words(job, many):
    """fewest_steps_with as the guarantee tells it."""
    moving, room = len([pair for pair in job[1] if pair[0] != pair[1]]), len(job[0]) - len(job[1])
    room += len([end for _, end in job[1] if end is None])
    if not room:
        return moving - len(rings_of(job)) if many >= needed(job) else None
    swapped, used = 0, 0
    for size in sorted(len(row) for row in rings_of(job)):
        used += size - 1
        swapped += used <= many
    return moving + len(rings_of(job)) - 2 * swapped


class StepAfter(unittest.TestCase):
    def test_every_step_in_every_stand(self):
        tried = 0
        for job in SMALL[::7] + [JOB, LONE, FAR, SCRAP, EMPTY]:
            names = job[0] + ("x",)
            others = [(place, other) for place in names for other in names + (None,)]
            others += [("swap", place, other) for place in names for other in names]
            for stand in list(stands_of(job))[:40]:
                ways = dict(steps_from(job, stand))
                for step in others:
                    if step in ways:
                        self.assertEqual(step_after(job, stand, step), ways[step], (job, stand, step))
                    else:
                        with self.assertRaises(Impossible) as held:
                            step_after(job, stand, step)
                        self.assertEqual(held.exception.move, step)
                    tried += 1
        self.assertGreater(tried, 10000)

    def test_exchanges(self):
        stand = (("a", "a"), ("d", "d"), ("t", "c"))
        self.assertEqual(step_after(JOB, stand, ("swap", "a", "t")), (("a", "c"), ("d", "d"), ("t", "a")))
        for step in (("swap", "t", "a"), ("swap", "a", "a"), ("swap", "a", "b"), ("swap", "b", "c"),
                     ("swap", "a", "x")):
            for put in (step, list(step)):
                with self.assertRaises(Impossible) as held:
                    step_after(JOB, stand, put)
                self.assertEqual(repr(held.exception.move), repr(step))

    def test_a_box_that_is_to_be_thrown_away_may_be_exchanged(self):
        self.assertEqual(step_after(SCRAP, start_of(SCRAP), ("swap", "p", "q")), (("p", "q"), ("q", "p")))
        self.assertEqual(step_after(SCRAP, (("p", "q"), ("q", "p")), ("p", None)), (("q", "p"),))

    def test_a_place_called_swap(self):
        job = (("a", "swap", "t"), (("a", "swap"), ("swap", "a")))
        self.assertEqual(step_after(job, start_of(job), ("swap", "t")), (("a", "a"), ("t", "swap")))
        self.assertEqual(step_after(job, start_of(job), ("swap", "a", "swap")), (("a", "swap"), ("swap", "a")))
        steps = (("swap", "t"), ("a", "swap"), ("t", "a"))
        self.assertIs(are_steps(job, steps), True)
        self.assertEqual(how_many_swaps(steps), 0)
        self.assertIs(are_fewest_steps(job, (("swap", "a", "swap"),)), True)


class AreSteps(unittest.TestCase):
    def test_drawn_rows(self):
        draw, found = Random(1), []
        for job in SEARCHED:
            for _ in range(5):
                stand, steps = start_of(job), []
                for _ in range(draw.randint(0, 6)):
                    ways = list(steps_from(job, stand))
                    if ways and stand != end_of(job):
                        step, stand = draw.choice(ways)
                        steps.append(step)
                wanted = leads_right(job, tuple(steps))
                self.assertIs(are_steps(job, tuple(steps)), wanted, (job, steps))
                found.append(wanted)
                if len(steps) > 1:
                    turned = tuple(steps[::-1])
                    self.assertIs(are_steps(job, turned), leads_right(job, turned))
        self.assertGreater(found.count(True), 300)
        self.assertGreater(found.count(False), 300)

    def test_bent_steps(self):
        for job, steps in ((LONE, SWAPPED), (LONE, (("c", "t"), ("swap", "d", "t"), ("d", "c"), ("t", "d"))),
                           (SCRAP, (("swap", "p", "q"), ("p", None)))):
            right = 0
            for thing in bent(steps):
                wanted = self.all_are_steps(thing) and leads_right(job, thing)
                self.assertIs(are_steps(job, thing), wanted, thing)
                self.assertIs(are_fewest_steps(job, thing), wanted and len(thing) == fewest_steps(job), thing)
                right += wanted
            self.assertEqual(right > 0, leads_right(job, steps))

    def all_are_steps(self, thing):
        if not isinstance(thing, tuple) or not all([isinstance(step, tuple) and step for step in thing]):
            return False
        return all([all([part is None or isinstance(part, str) for part in step]) for step in thing])

    def test_strange_things_and_lists(self):
        for thing in STRANGE + (("swap", "c", "d"), (("swap", "c"),), (("swap", "c", "d", "e"),), (("swap", "d", "c"),),
                                (("swap", "c", None),), (("swap", "c", 1),), (("swap", ("c",), "d"),), ((1, "c", "d"),),
                                (("Swap", "c", "d"),), (("swap", "c", "c"),), (("swap", "c", "t"),), ("swap",),
                                ((("swap",), "c", "d"),), ((["swap"], "c", "d"),), (("swap", ["c"], "d"),)):
            self.assertIs(are_steps(LONE, thing), False, thing)
            self.assertIs(are_fewest_steps(LONE, thing), False, thing)
            self.assertIs(are_steps(EMPTY, thing), repr(thing) == "()", thing)
            self.assertIs(are_steps(LONE, SWAPPED + (thing,)), False, thing)
        for thing in with_one_list(SWAPPED):
            self.assertIs(are_steps(LONE, thing), False, thing)
        self.assertIs(are_steps(as_lists(LONE), SWAPPED), True)

    def test_plans_are_steps(self):
        for job in SEARCHED[::3] + list(GREAT_JOBS):
            if by_words(job, 0) is not None:
                plan = drawn_plan(job, Random(3))
                self.assertIs(are_steps(job, plan), True)
                self.assertIs(are_steps(job, plan[:-1]), not plan)
                self.assertIs(are_fewest_steps(job, plan), not rings_of(job))

    def test_beyond_the_bounds(self):
        turn = (("swap", "c", "d"), ("swap", "c", "d")) * 200
        self.assertIs(are_steps(LONE, turn + SWAPPED), True)
        self.assertIs(are_steps(LONE, turn), False)
        self.assertIs(are_fewest_steps(LONE, turn + SWAPPED), False)
        self.assertEqual(how_many_swaps(turn), 400)

    def test_how_many_swaps(self):
        for steps, many in (((), 0), (SWAPPED, 1), (PLAN, 0), (PLAN + SWAPPED + PLAN + SWAPPED, 2),
                            ((("z", None),), 0)):
            self.assertEqual(how_many_swaps(steps), many)
            self.assertEqual(how_many_swaps(as_lists(steps)), many)


class Fewest(unittest.TestCase):
    def test_against_a_search_through_all_stands(self):
        found = []
        for job in SEARCHED:
            most = needed(job) + 2
            least = at_most(least_by_swaps(job, most))
            for many, wanted in enumerate(least):
                self.assertEqual(fewest_steps_with(job, many), wanted, (job, many))
                self.assertEqual(wanted, by_words(job, many))
                found.append(wanted)
            self.assertEqual(fewest_steps(job), least[-1])
            for many in (10 ** 40, 50):
                self.assertEqual(fewest_steps_with(job, many), least[-1])
            for number in range(least[-1] + 4):
                enough = [many for many, wanted in enumerate(least) if wanted is not None and wanted <= number]
                self.assertEqual(swaps_for(job, number), min(enough, default=None), (job, number))
            self.assertEqual(swaps_for(job, 10 ** 40), [wanted is not None for wanted in least].index(True))
            self.check_built(job, range(most + 1))
        self.assertGreater(found.count(None), 20)

    def check_built(self, job, numbers):
        """The STEPS that are built are followed to the end by the words."""
        steps = a_few_steps(job)
        self.assertIs(leads_right(job, steps), True)
        self.assertEqual(len(steps), fewest_steps(job))
        self.assertIs(are_fewest_steps(job, steps), True)
        for many in numbers:
            least = fewest_steps_with(job, many)
            if least is None:
                with self.assertRaises(NoPlan):
                    some_steps_with(job, many)
            else:
                steps = some_steps_with(job, many)
                self.assertIs(leads_right(job, steps), True)
                self.assertEqual(len(steps), least)
                self.assertLessEqual(swaps_in(steps), many)
                self.assertIs(are_steps(job, steps), True)
                self.assertIs(are_fewest_steps(job, steps), least == fewest_steps(job))

    def test_great_jobs(self):
        stuck = 0
        for job in GREAT_JOBS + (job_of((2, 9, 3, 3), (), 22, 1), job_of((2, 9, 3, 3), ((1, True),), 22, 0),
                                 job_of((5, 2, 4), (), 29, 0)):
            top = needed(job)
            for many in range(top + 2):
                self.assertEqual(fewest_steps_with(job, many), by_words(job, many))
            self.assertEqual(fewest_steps_with(job, 10 ** 40), by_words(job, top))
            self.assertEqual(fewest_steps(job), by_words(job, top))
            least = [by_words(job, many) for many in range(top + 1)]
            for number in range(least[-1] - 1, least[-1] + 2 * len(rings_of(job)) + 2, 3):
                enough = [many for many in range(top + 1) if least[many] is not None and least[many] <= number]
                self.assertEqual(swaps_for(job, number), min(enough, default=None))
            self.check_built(job, (0, 1, 2, 3, top - 1, top, top + 1, 10 ** 40) if top else (0, 1))
            stuck += by_words(job, 0) is None
        self.assertGreater(stuck, 2)

    def test_the_smaller_rings_are_exchanged(self):
        job = job_of((9, 2, 5), (), 0, 1)
        self.assertEqual([fewest_steps_with(job, many) for many in (0, 1, 4, 5, 12, 13)], [19, 17, 17, 15, 15, 13])
        self.assertEqual([swaps_for(job, number) for number in range(12, 20)], [None, 13, 13, 5, 5, 1, 1, 0])

    def test_without_room_all_rings_are_exchanged_or_none(self):
        self.assertEqual([fewest_steps_with(FULL, many) for many in range(5)], [None, None, None, 3, 3])
        self.assertEqual([swaps_for(FULL, number) for number in range(6)], [None, None, None, 3, 3, 3])
        with self.assertRaises(NoPlan):
            some_steps_with(FULL, 2)
        done = (("a", "b"), (("a", "a"), ("b", "b")))
        self.assertEqual((fewest_steps_with(done, 0), some_steps_with(done, 0), swaps_for(done, 0)), (0, (), 0))

    def test_no_more_exchanges_than_needed(self):
        for job in SEARCHED:
            for number in range(fewest_steps(job), fewest_steps(job) + 5):
                many = swaps_for(job, number)
                if many:
                    least = fewest_steps_with(job, many - 1)
                    self.assertTrue(least is None or least > number)


class Blind(unittest.TestCase):
    def drawn(self, draw):
        """JOBS with STEPS of all kinds, exchanges ahead of, between and behind MOVES."""
        for job in SEARCHED[::2] + list(GREAT_JOBS[:8]):
            for many in (0, 1, 2, needed(job)):
                if by_words(job, many) is not None:
                    steps = some_steps_with(job, many)
                    yield job, steps
                    full = full_at(end_of(job))
                    if len(full) > 1:
                        pair = ("swap",) + tuple(sorted(draw.sample(full, 2)))
                        yield job, steps + (pair, pair)

    def test_where_the_sight_is_the_same(self):
        blind = 0
        for job, steps in self.drawn(Random(5)):
            shown = [full_at(stand) for stand in behind_steps(job, steps)]
            wanted = tuple(at for at in range(len(steps)) if shown[at] == shown[at + 1])
            self.assertEqual(blind_steps(job, steps), wanted)
            self.assertEqual(len(wanted), how_many_swaps(steps))
            blind += len(wanted)
        self.assertGreater(blind, 300)

    def test_where_kinds_tell(self):
        draw, found = Random(7), []
        for job, steps in self.drawn(draw):
            kinds = tuple((box, draw.choice(("x", "y"))) for box, _ in job[1])
            shown = [kinds_at(kinds)(stand) for stand in behind_steps(job, steps)]
            wanted = tuple(at for at in range(len(steps)) if shown[at] == shown[at + 1])
            self.assertEqual(blind_steps_by(job, kinds, steps), wanted)
            same, unlike = [tuple((box, name if name else box) for box, _ in job[1]) for name in ("x", None)]
            self.assertEqual(blind_steps_by(job, same, steps), blind_steps(job, steps))
            self.assertEqual(blind_steps_by(job, unlike, steps), ())
            found += [at in wanted for at in blind_steps(job, steps)]
        self.assertGreater(found.count(True), 50)
        self.assertGreater(found.count(False), 50)

    def test_no_steps_and_moves_alone(self):
        self.assertEqual(blind_steps(EMPTY, ()), ())
        self.assertEqual(blind_steps_by(EMPTY, (), ()), ())
        for job in GREAT_JOBS[3:8]:
            if by_words(job, 0) is not None:
                plan = drawn_plan(job, Random(1))
                self.assertEqual(blind_steps(job, plan), ())
                kinds = tuple((box, "x") for box, _ in job[1])
                self.assertEqual(blind_steps_by(job, kinds, plan), ())
                self.assertEqual(len(sights_by(job, kinds, plan)), len(plan) + 1)

    def test_an_exchange_of_others_than_ring_boxes(self):
        steps = (("c", "t"), ("swap", "a", "t"), ("swap", "a", "t"), ("t", "c")) + PLAN
        self.assertIs(are_steps(JOB, steps), True)
        self.assertEqual(blind_steps(JOB, steps), (1, 2))
        self.assertEqual(blind_steps_by(JOB, (("a", "x"), ("c", "y"), ("d", "x")), steps), ())
        self.assertEqual(blind_steps_by(JOB, (("a", "x"), ("c", "x"), ("d", "y")), steps), (1, 2))


class Guarantee(unittest.TestCase):
    def test_steps_are_always_there(self):
        for job in SEARCHED + list(GREAT_JOBS):
            self.assertIs(are_steps(job, a_few_steps(job)), True)

    def test_without_exchanges_they_are_plans(self):
        for job in SMALL[::3]:
            far = far_from_end(job)
            self.assertEqual(fewest_steps_with(job, 0), far.get(start_of(job)))


if __name__ == "__main__":
    unittest.main()
