"""The whole program: one JOB and one PLAN of it through all files, and the guarantees of [1]."""

import unittest
from random import Random

from namesalone.alike import alike_pairs, is_readable, moments_of, rings_between
from namesalone.board import Board
from namesalone.counts import how_many_plans, how_many_readable, nth_plan, nth_readable, number_of_plan
from namesalone.desk import replies
from namesalone.errors import NoRule
from namesalone.fences import a_fenced, fewest_fences, is_fenced, is_tellable, lasting, moves_in
from namesalone.fewest import a_plan, can_be_done, fewest_moves, is_fewest
from namesalone.jobs import back_job, boxes, chains, free_places, rings, then_job, thrown
from namesalone.kinds import a_plan_by, has_rule_by, is_readable_by, is_rule_by, painted, rule_by, sights_by, to_paint
from namesalone.lists import list_read, list_text
from namesalone.looks import a_tree, fewest_looks, is_tree, moment_by, watch
from namesalone.moves import is_end, is_plan, left_job, sights, stand_at
from namesalone.rules import a_rule, followed, has_rule, is_rule, rule_of
from namesalone.sizes import a_plan_by_sizes, can_be_done_by, is_plan_by_sizes, is_sizes, opening, place_needed
from namesalone.swaps import a_few_steps, are_steps, blind_steps, fewest_steps, fewest_steps_with, how_many_swaps
from namesalone.texts import (job_read, job_text, plan_read, plan_text, rule_read, rule_text, sight_read, sight_text,
                              stand_read, stand_text)
from tests.support import (EMPTY, FAR, GREAT_JOBS, JOB, LONE, SCRAP, STUCK, WIDER_JOBS, drawn_plan, fewest_plans,
                           small_jobs, some_plan_is_readable)

SMALL = list(small_jobs())
JOBS = SMALL[::2] + list(WIDER_JOBS) + list(GREAT_JOBS) + [JOB, FAR, LONE, SCRAP, STUCK, EMPTY]


def plans():
    """JOBS with PLANS of them: one that is readable if some is, and drawn ones."""
    draw = Random(1)
    for job in JOBS:
        if can_be_done(job):
            yield job, a_plan(job)
            yield job, drawn_plan(job, draw)


def request(move):
    return "throw " + move[0] if move[1] is None else "move %s %s" % move


class WrittenAndRead(unittest.TestCase):
    def test_jobs(self):
        for job in JOBS:
            self.assertEqual(list_read(list_text(job)), job)
            self.assertEqual(job_read(job_text(job)), job)
            self.assertEqual(job_text(list_read(list_text(job_read(job_text(job))))), job_text(job))

    def test_plans_sights_and_stands(self):
        for job, plan in plans():
            self.assertEqual(plan_read(plan_text(plan)), plan)
            for moment in (0, len(plan) // 2, len(plan)):
                stand = stand_at(job, plan, moment)
                self.assertEqual(stand_read(stand_text(stand)), stand)
                self.assertEqual(sight_read(sight_text(sights(job, plan)[moment])), sights(job, plan)[moment])

    def test_rules(self):
        for job in JOBS:
            if has_rule(job):
                self.assertEqual(rule_read(rule_text(a_rule(job))), a_rule(job))


class OnePlan(unittest.TestCase):
    def test_by_its_moves_on_a_board(self):
        for job, plan in plans():
            board, shown = Board(list_read(list_text(job))), sights(job, plan)
            for number, move in enumerate(plan):
                self.assertEqual((board.sight(), board.stand()), (shown[number], stand_at(job, plan, number)))
                self.assertIs(board.is_done(), False)
                self.assertEqual(fewest_moves(board.left()), len(plan) - number)
                self.assertEqual(board.seen(), moments_of(job, plan, shown[number])[0])
                board.carry(*move)
            self.assertIs(board.is_done(), True)
            self.assertEqual((board.moves(), board.stand()), (plan, stand_at(job, plan, len(plan))))
            self.assertEqual(fewest_moves(board.left()), 0)

    def test_at_a_desk(self):
        for job, plan in plans():
            if len(plan) < 52:
                lines = [request(move) for move in plan] + ["ended", "many", "readable", "left", "sight", "rule",
                                                            "undo", "ended"]
                wanted = ["done"] * len(plan) + ["yes", str(len(plan)), "yes" if is_readable(job, plan) else "no", "0",
                                                 sight_text(sights(job, plan)[-1]), "yes"]
                wanted += ["done", "no"] if plan else ["refused NothingDone", "yes"]
                self.assertEqual(replies(job_read(job_text(job)), "\n".join(lines)), wanted)

    def test_by_its_rule(self):
        readable = 0
        for job, plan in plans():
            if is_readable(job, plan):
                rule = rule_read(rule_text(rule_of(job, plan)))
                self.assertEqual(followed(job, rule), (plan, "right"))
                self.assertIs(is_rule(job, rule), True)
                board = Board(job)
                self.assertEqual(tuple([board.step(rule) for _ in plan]), plan)
                self.assertIs(board.is_done(), True)
                self.assertIsNone(board.step(rule))
                readable += 1
            else:
                with self.assertRaises(NoRule):
                    rule_of(job, plan)
        self.assertGreater(readable, 100)

    def test_a_cut_anywhere(self):
        # Whoever comes back has the RULE and the SIGHT: from each moment on it leads to the same end.
        for job in JOBS:
            if has_rule(job):
                rule = a_rule(job)
                plan = followed(job, rule)[0]
                for moment in {0, 1, len(plan) // 2, len(plan)} & set(range(len(plan) + 1)):
                    board = Board(left_job(job, stand_at(job, plan, moment)))
                    self.assertEqual(tuple([board.step(rule) for _ in plan[moment:]]), plan[moment:])
                    self.assertIs(board.is_done(), True)

    def test_by_kinds_of_one_sort(self):
        for job, plan in plans():
            kinds = tuple([(box, "x") for box in boxes(job)])
            shown = tuple([tuple([(place, "x") for place in sight]) for sight in sights(job, plan)])
            self.assertEqual(sights_by(job, kinds, plan), shown)
            self.assertIs(is_readable_by(job, kinds, plan), is_readable(job, plan))
            self.assertIs(has_rule_by(job, kinds), has_rule(job))
            if is_readable(job, plan):
                rule = tuple([(tuple([(place, "x") for place in sight]), move) for sight, move in rule_of(job, plan)])
                self.assertEqual(rule_by(job, kinds, plan), rule)
                self.assertIs(is_rule_by(job, kinds, rule), True)

    def test_with_a_fence_between_each_two_moves(self):
        for job, plan in plans():
            steps = tuple([step for move in plan for step in (move, "|")])[:-1]
            self.assertIs(is_fenced(job, steps), True)
            self.assertEqual(moves_in(steps), plan)
            self.assertEqual(lasting(job, steps), sorted({stand_at(job, plan, at) for at in range(len(plan) + 1)}))
            self.assertIs(is_tellable(job, steps), is_readable(job, plan))

    def test_as_steps_without_exchanges(self):
        for job, plan in plans():
            self.assertIs(are_steps(job, plan), True)
            self.assertEqual((how_many_swaps(plan), blind_steps(job, plan)), (0, ()))
            self.assertEqual(fewest_steps_with(job, 0), len(plan))
            self.assertEqual(fewest_steps(job), len(plan) - 2 * len(rings(job)))

    def test_with_sizes_that_bar_nothing(self):
        for job, plan in plans():
            for number in (0, 7):
                sizes = tuple([(place, number) for place in job[0]]), tuple([(box, number) for box in boxes(job)])
                self.assertIs(is_sizes(job, sizes), True)
                self.assertIs(is_plan_by_sizes(job, sizes, plan), True)
                self.assertIs(can_be_done_by(job, sizes), True)
                self.assertEqual([ring for ring, _ in opening(job, sizes)], list(rings(job)))
                self.assertIs(is_fewest(job, a_plan_by_sizes(job, sizes)), True)
                self.assertEqual(place_needed(job, sizes), 0)

    def test_there_and_back(self):
        for job in JOBS:
            back = None if thrown(job) else back_job(job)
            if back is not None and can_be_done(job):
                both = then_job(job, back)
                self.assertIs(is_plan(both, a_plan(job) + a_plan(back)), True)
                self.assertEqual(fewest_moves(both), 0)


class Guarantees(unittest.TestCase):
    def test_a_when_there_is_a_rule(self):
        for job in SMALL + list(WIDER_JOBS):
            room = len(free_places(job)) + len(thrown(job))
            wanted = not rings(job) or len(chains(job)) > 0 and room >= 2
            self.assertIs(has_rule(job), wanted)
            self.assertIs(some_plan_is_readable(job), wanted)
            if wanted:
                self.assertEqual(len(a_rule(job)), fewest_moves(job))

    def test_b_what_is_made_between_moments_that_are_alike(self):
        for job, plan in plans():
            for one, other in alike_pairs(job, plan):
                between = rings_between(job, plan, one, other)
                self.assertGreater(len(between), 0)
                self.assertEqual(other - one, sum([len(ring) + 1 for ring in between]))

    def test_c_how_many_fences(self):
        for job in JOBS:
            if not rings(job):
                self.assertEqual(fewest_fences(job), 0)
            else:
                self.assertEqual(fewest_fences(job), 2 if has_rule(job) else None)
            if has_rule(job):
                self.assertIs(is_fewest(job, moves_in(a_fenced(job))), True)

    def test_d_one_box_is_painted(self):
        painted_ones = 0
        for job in JOBS:
            box = to_paint(job) if can_be_done(job) else None
            if box is not None:
                kinds = painted(job, box)
                plan = a_plan_by(job, kinds)
                self.assertIs(has_rule(job), False)
                self.assertIs(is_fewest(job, plan), True)
                self.assertIs(is_rule_by(job, kinds, rule_by(job, kinds, plan)), True)
                painted_ones += 1
        self.assertGreater(painted_ones, 20)

    def test_e_with_exchanges_it_always_can_be_done(self):
        for job in JOBS:
            self.assertIs(are_steps(job, a_few_steps(job)), True)
            self.assertEqual(len(a_few_steps(job)), fewest_steps(job))
            self.assertIs(fewest_steps_with(job, 0) is None, not can_be_done(job))

    def test_f_counts_and_looks(self):
        draw = Random(7)
        for job in SMALL[::3] + [JOB, LONE, STUCK]:
            found = fewest_plans(job)
            readable = [plan for plan in found if is_readable(job, plan)]
            self.assertEqual((how_many_plans(job), how_many_readable(job)), (len(found), len(readable)))
            self.assertIs(len(readable) > 0, has_rule(job))
            if readable:
                plan = nth_readable(job, draw.randrange(len(readable)))
                self.assertEqual(nth_plan(job, number_of_plan(job, plan)), plan)
                self.check_looks(job, plan)

    def check_looks(self, job, plan):
        tree, shown, some = a_tree(job, plan), sights(job, plan), watch(job, plan)
        self.assertIs(is_tree(job, plan, tree), True)
        self.assertEqual([moment_by(tree, sight) for sight in shown], list(range(len(plan) + 1)))
        self.assertLessEqual(fewest_looks(job, plan), len(some))
        self.assertEqual(len({tuple([place in sight for place in some]) for sight in shown}), len(shown))
        self.assertIs(is_end(job, stand_at(job, plan, moment_by(tree, shown[-1]))), True)


if __name__ == "__main__":
    unittest.main()
