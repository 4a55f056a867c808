"""Boards ([16])."""

import copy
import inspect
import unittest
from random import Random

from namesalone.board import Board
from namesalone.errors import Impossible, NothingDone
from namesalone.rules import a_rule, has_rule
from tests.support import (EMPTY, FAR, GREAT_JOBS, JOB, LONE, PLAN, SCRAP, STUCK, WIDER_JOBS, as_lists, drawn_plan,
                           end_of,
                           far_from_end, full_at, has_list, moves_from, sights_shown, small_jobs, stands_behind,
                           start_of)

RULE = ((("a", "c", "d"), ("c", "t")), (("a", "d", "t"), ("a", "b")), (("b", "c", "t"), ("t", "d")),
        (("b", "d", "t"), ("d", "c")))
WALKED = [job for job in list(small_jobs())[::4] if job[1]] + [JOB, FAR, SCRAP, LONE, STUCK,
                                                               EMPTY] + list(WIDER_JOBS[:4])
METHODS = {"job": [], "stand": [], "moves": [], "sight": [], "is_done": [], "left": [], "seen": [], "begin": [],
           "undo": [], "deeds": [], "twin": [], "carry": ["place", "other"], "step": ["rule"]}


class Told:
    """What a Board must tell, by the words of the document."""

    def __init__(self, job):
        self.job, self.past, self.row = job, [], []

    def stand(self):
        return stands_behind(self.job, self.row)[-1]

    def possible(self):
        return dict(moves_from(self.job, self.stand()))

    def do(self, row):
        self.past.append(list(self.row))
        self.row = list(row)


class Walks(unittest.TestCase):
    def same(self, board, told):
        stand, shown = told.stand(), sights_shown(told.job, told.row)
        goal = dict(told.job[1])
        self.assertEqual(board.job(), told.job)
        self.assertEqual(board.stand(), stand)
        self.assertEqual(board.moves(), tuple(told.row))
        self.assertEqual(len(board), len(told.row))
        self.assertEqual(board.sight(), full_at(stand))
        self.assertIs(board.is_done(), stand == end_of(told.job))
        self.assertEqual(board.left(), (told.job[0], tuple((place, goal[box]) for place, box in stand)))
        self.assertEqual(board.seen(), shown.index(shown[-1]))
        self.assertEqual(board.deeds(), len(told.past))

    def deed(self, board, told, draw):
        """One thing drawn, done to the Board and told of it."""
        word, ways = draw.choice(("carry", "carry", "carry", "wrong", "step", "begin", "undo", "undo")), told.possible()
        if word == "carry" and ways:
            move = draw.choice(sorted(ways, key=repr))
            if move[1] is None and draw.random() < 0.5:
                self.assertIsNone(board.carry(move[0]))
            else:
                self.assertIsNone(board.carry(*move))
            told.do(told.row + [move])
        elif word == "wrong":
            place, other = draw.choice(told.job[0] + ("x",)), draw.choice(told.job[0] + ("x", None))
            if (place, other) not in ways:
                self.refused(board, lambda: board.carry(place, other), (place, other))
        elif word == "step":
            self.stepped(board, told, draw, ways)
        elif word == "begin":
            self.assertIsNone(board.begin())
            told.do([])
        elif told.past:
            self.assertIsNone(board.undo())
            told.row = told.past.pop()
        else:
            with self.assertRaises(NothingDone):
                board.undo()

    def stepped(self, board, told, draw, ways):
        sight, names = full_at(told.stand()), told.job[0]
        move = (draw.choice(names), draw.choice(names + (None,)))
        if ways and draw.random() < 0.7:
            move = draw.choice(sorted(ways, key=repr))
        if draw.random() < 0.2:
            self.assertIsNone(board.step(((() if sight else names[:1], move),)))
        elif move in ways:
            self.assertEqual(board.step(((sight, move),)), move)
            told.do(told.row + [move])
        else:
            self.refused(board, lambda: board.step(((sight, move),)), move)

    def refused(self, board, call, move):
        with self.assertRaises(Impossible) as held:
            call()
        self.assertEqual(held.exception.move, move)

    def test_drawn_walks(self):
        draw = Random(1)
        for job in WALKED:
            board, told = Board(job), Told(job)
            self.same(board, told)
            for _ in range(25):
                self.deed(board, told, draw)
                self.same(board, told)

    def test_twins_go_on_by_themselves(self):
        draw = Random(3)
        for job in WALKED:
            pairs = [(Board(job), Told(job))]
            for turn in range(8):
                for board, told in pairs:
                    self.deed(board, told, draw)
                if turn in (2, 4):
                    board, told = pairs[-1]
                    pairs.append((board.twin(), copy.deepcopy(told)))
                    self.assertIs(pairs[-1][0].__class__, Board)
                for board, told in pairs:
                    self.same(board, told)

    def test_plans_of_great_jobs(self):
        draw = Random(5)
        for job in GREAT_JOBS:
            if full_at(start_of(job)) != job[0] or (None in dict(job[1]).values()):
                board, told = Board(job), Told(job)
                for move in drawn_plan(job, draw):
                    board.carry(*move)
                    told.do(told.row + [move])
                self.same(board, told)
                self.assertIs(board.is_done(), True)
                while told.past:
                    board.undo()
                    told.row = told.past.pop()
                self.same(board, told)

    def test_eighty_moves_and_a_hundred_deeds(self):
        board, told = Board(JOB), Told(JOB)
        for at in range(80):
            move = ("c", "t") if at % 2 == 0 else ("t", "c")
            board.carry(*move)
            told.do(told.row + [move])
        self.same(board, told)
        self.assertEqual((len(board), board.deeds(), board.seen()), (80, 80, 0))
        for _ in range(20):
            board.begin()
            told.do([])
        self.same(board, told)
        self.assertEqual(board.deeds(), 100)
        for _ in range(21):
            board.undo()
            told.row = told.past.pop()
        self.same(board, told)
        self.assertEqual(len(board), 79)
        while told.past:
            board.undo()
            told.row = told.past.pop()
        self.same(board, told)
        with self.assertRaises(NothingDone):
            board.undo()


class Deeds(unittest.TestCase):
    def test_the_rule_is_followed_to_the_end(self):
        for job in [job for job in list(small_jobs()) + list(WIDER_JOBS) + list(GREAT_JOBS) if has_rule(job)][::3]:
            board, rule, moves = Board(job), a_rule(job), []
            move = board.step(rule)
            while move is not None:
                moves.append(move)
                move = board.step(rule)
            self.assertEqual(board.moves(), tuple(moves))
            self.assertEqual((len(moves), board.deeds()), (len(rule), len(rule)))
            self.assertIs(board.is_done(), True)

    def test_step_that_tells_none_is_no_deed(self):
        board = Board(JOB)
        for rule in ((), RULE[1:], RULE[3:]):
            self.assertIsNone(board.step(rule))
        self.assertEqual((board.deeds(), len(board), board.stand()), (0, 0, start_of(JOB)))
        with self.assertRaises(NothingDone):
            board.undo()

    def test_step_that_is_refused(self):
        board = Board(JOB)
        board.carry("c", "t")
        for move in (("c", "t"), ("a", "d"), ("b", "a"), ("t", "t"), ("a", None)):
            for rule in (((("a", "d", "t"), move),), [[["a", "d", "t"], list(move)]]):
                with self.assertRaises(Impossible) as held:
                    board.step(rule)
                self.assertEqual(repr(held.exception.move), repr(move))
        self.assertEqual((board.moves(), board.deeds(), board.sight()), ((("c", "t"),), 1, ("a", "d", "t")))

    def test_step_takes_lists_and_returns_tuples(self):
        board = Board(JOB)
        self.assertEqual(repr(board.step(as_lists(RULE))), "('c', 't')")
        self.assertEqual(repr(board.step(rule=list(RULE))), "('a', 'b')")
        self.assertEqual(repr(board.moves()), repr(PLAN[:2]))

    def test_carry_that_is_refused(self):
        for job, place, other in ((JOB, "a", "d"), (JOB, "b", "a"), (JOB, "a", None), (JOB, "x", "a"), (JOB, "a", "x"),
                                  (JOB, "a", "a"), (SCRAP, "p", None), (SCRAP, "p", "q"), (SCRAP, "zz", None),
                                  (EMPTY, "a", "a")):
            board = Board(job)
            with self.assertRaises(Impossible) as held:
                board.carry(place, other)
            self.assertEqual(held.exception.move, (place, other))
            self.assertEqual((board.moves(), board.deeds(), board.stand()), ((), 0, start_of(job)))

    def test_carry_by_name_and_without_the_other(self):
        board = Board(job=SCRAP)
        self.assertIsNone(board.carry(place="q"))
        self.assertIsNone(board.carry(other="q", place="p"))
        self.assertEqual(board.moves(), (("q", None), ("p", "q")))
        self.assertIs(board.is_done(), True)
        self.assertEqual(board.left(), (("p", "q"), (("q", "q"),)))
        with self.assertRaises(Impossible) as held:
            board.carry("q")
        self.assertEqual(held.exception.move, ("q", None))

    def test_undo_across_begin_and_step(self):
        board = Board(JOB)
        board.carry("c", "t")
        board.step(RULE)
        board.begin()
        board.begin()
        board.carry("a", "b")
        self.assertEqual((board.deeds(), board.moves()), (5, (("a", "b"),)))
        found = []
        for _ in range(5):
            self.assertIsNone(board.undo())
            found.append((board.deeds(), board.moves(), board.stand() == start_of(JOB)))
        self.assertEqual(found, [(4, (), True), (3, (), True), (2, PLAN[:2], False), (1, PLAN[:1], False),
                                 (0, (), True)])
        with self.assertRaises(NothingDone):
            board.undo()
        board.carry("c", "t")
        self.assertEqual((board.deeds(), board.moves()), (1, PLAN[:1]))

    def test_begin_on_a_new_board_is_a_deed(self):
        board = Board(JOB)
        self.assertIsNone(board.begin())
        self.assertEqual(board.deeds(), 1)
        board.undo()
        self.assertEqual(board.deeds(), 0)

    def test_seen_is_the_first_moment_that_looks_so(self):
        board = Board(JOB)
        found = []
        for move in (("c", "t"), ("t", "c"), ("c", "t"), ("d", "c"), ("t", "d"), ("a", "b"), ("b", "t"), ("t", "b")):
            board.carry(*move)
            found.append((board.seen(), len(board)))
        self.assertEqual(found, [(1, 1), (0, 2), (1, 3), (4, 4), (0, 5), (6, 6), (7, 7), (6, 8)])


class Compared(unittest.TestCase):
    def test_by_jobs_and_stands_alone(self):
        one, other = Board(JOB), Board(JOB)
        self.assertIs(one == other, True)
        self.assertIs(one != other, False)
        one.carry("c", "t")
        self.assertIs(one == other, False)
        self.assertIs(one != other, True)
        one.carry("t", "c")
        self.assertIs(one == other, True)
        other.begin()
        other.undo()
        self.assertIs(one == other, True)
        self.assertIs(one != other, False)

    def test_other_ways_to_one_stand(self):
        one, other = Board(JOB), Board(JOB)
        for move in (("a", "b"), ("c", "t")):
            one.carry(*move)
        for move in (("c", "t"), ("a", "b")):
            other.carry(*move)
        self.assertIs(one == other, True)
        # The same places are full, but other boxes are there.
        one, other = Board(LONE), Board(LONE)
        for move in (("c", "t"), ("d", "c"), ("t", "d")):
            one.carry(*move)
        self.assertEqual(one.sight(), other.sight())
        self.assertIs(one == other, False)

    def test_other_jobs_and_other_things(self):
        one = Board((("a", "b"), (("a", "b"),)))
        for other in (Board((("a", "b"), (("a", "a"),))), Board((("a", "b", "c"), (("a", "b"),))), None, 0, "a", (), [],
                      one.job(), one.stand(), (one.job(), one.stand()), Board):
            self.assertIs(one == other, False)
            self.assertIs(one != other, True)
            self.assertIs(other == one, False)
        self.assertIs(Board([["a", "b"], [["a", "b"]]]) == one, True)

    def test_a_twin_is_equal(self):
        board = Board(JOB)
        board.carry("c", "t")
        self.assertIs(board.twin() == board, True)
        self.assertIs(board == Board(board.job()), False)

    def test_iteration_raises(self):
        board = Board(JOB)
        board.carry("c", "t")
        for call in (lambda: iter(board), lambda: list(board), lambda: [move for move in board],
                     lambda: ("c", "t") in board,
                     lambda: tuple(board), lambda: sorted(board)):
            with self.assertRaises(TypeError):
                call()


class Kept(unittest.TestCase):
    def test_each_method_is_defined_in_the_class_itself(self):
        for name, arguments in METHODS.items():
            self.assertIn(name, vars(Board))
            self.assertEqual(list(inspect.signature(getattr(Board, name)).parameters), ["self"] + arguments)
        for name in ("__init__", "__len__", "__eq__"):
            self.assertIn(name, vars(Board))
        self.assertEqual(list(inspect.signature(Board).parameters), ["job"])
        self.assertEqual(Board.__bases__, (object,))
        self.assertIs(inspect.signature(Board.carry).parameters["other"].default, None)

    def test_the_job_is_copied(self):
        job = as_lists(JOB)
        board = Board(job)
        job[0].append("z")
        job[1][0][1] = "t"
        job[1].clear()
        self.assertEqual(board.job(), JOB)
        self.assertEqual(board.stand(), start_of(JOB))
        self.assertEqual(board.left(), JOB)
        board.carry("a", "b")
        self.assertEqual(board.left(), (JOB[0], (("b", "b"), ("c", "d"), ("d", "c"))))

    def test_all_is_made_of_tuples(self):
        for board in (Board(as_lists(JOB)), Board(list(JOB)), Board(JOB)):
            board.step(as_lists(RULE))
            board.carry("a", "b")
            for other in (board, board.twin()):
                self.assertEqual(repr((other.job(), other.moves())), repr((JOB, PLAN[:2])))
                for value in (other.job(), other.stand(), other.moves(), other.sight(), other.left()):
                    self.assertIsInstance(value, tuple)
                    self.assertFalse(has_list(value))

    def test_the_rule_stays_as_it_was(self):
        rule = as_lists(RULE)
        kept = copy.deepcopy(rule)
        Board(JOB).step(rule)
        self.assertEqual(rule, kept)

    def test_done_from_the_start(self):
        for job in ((("a",), (("a", "a"),)), EMPTY, (("a", "b"), (("b", "b"),))):
            board = Board(job)
            self.assertIs(board.is_done(), True)
            self.assertEqual((len(board), board.seen(), board.moves(), board.deeds()), (0, 0, (), 0))
        self.assertIs(Board((("a",), (("a", None),))).is_done(), False)
        self.assertEqual(far_from_end(SCRAP)[start_of(SCRAP)], 2)


if __name__ == "__main__":
    unittest.main()
