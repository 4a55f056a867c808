"""A desk ([18])."""

import unittest
from random import Random

from namesalone.board import Board
from namesalone.desk import is_request, replies
from namesalone.errors import BadLine
from tests.support import (EMPTY, FAR, GREAT_JOBS, JOB, LONE, SCRAP, STRANGE, STUCK, WIDER_JOBS, as_lists, end_of,
                           far_from_end, full_at, moves_from, rings_of, sights_shown, small_jobs, some_plan_is_readable,
                           stands_behind, start_of)

BEHIND = {"move": 2, "throw": 1, "begin": 0, "undo": 0, "sight": 0, "where": 1, "who": 1, "many": 0, "seen": 0,
          "again": 0,
          "ended": 0, "readable": 0, "left": 0, "rule": 0}
NAMES = ("a", "b", "c", "d", "t", "zz")


class Told:
    """What a desk must reply, by the words of the document."""

    def __init__(self, job):
        self.job, self.row, self.past = job, [], []

    def stand(self):
        return stands_behind(self.job, self.row)[-1]

    def left_over(self):
        goal = dict(self.job[1])
        return self.job[0], tuple((place, goal[box]) for place, box in self.stand())

    def do(self, row):
        self.past.append(self.row)
        self.row = row
        return "done"

    def carry(self, place, other):
        if (place, other) not in dict(moves_from(self.job, self.stand())):
            return "refused Impossible"
        return self.do(self.row + [(place, other)])

    def reply(self, line):
        word, *names = line.split(" ")
        return getattr(self, "on_" + word)(*names)

    def on_move(self, place, other):
        return self.carry(place, other)

    def on_throw(self, place):
        return self.carry(place, None)

    def on_begin(self):
        return self.do([])

    def on_undo(self):
        if not self.past:
            return "refused NothingDone"
        self.row = self.past.pop()
        return "done"

    def on_sight(self):
        return " ".join(full_at(self.stand())) or "-"

    def on_where(self, box):
        if box not in dict(self.job[1]):
            return "refused NoName"
        return {held: place for place, held in self.stand()}.get(box, "-")

    def on_who(self, place):
        if place not in self.job[0]:
            return "refused NoName"
        return dict(self.stand()).get(place, "-")

    def on_many(self):
        return str(len(self.row))

    def first(self):
        shown = sights_shown(self.job, self.row)
        return shown.index(shown[-1])

    def on_seen(self):
        return str(self.first())

    def on_again(self):
        return "yes" if self.first() < len(self.row) else "no"

    def on_ended(self):
        return "yes" if self.stand() == end_of(self.job) else "no"

    def on_readable(self):
        shown = sights_shown(self.job, self.row)
        return "yes" if len(set(shown)) == len(shown) else "no"

    def on_left(self):
        job = self.left_over()
        return str(far_from_end(job).get(start_of(job), "-"))

    def on_rule(self):
        return "yes" if some_plan_is_readable(self.left_over()) else "no"


def drawn_line(job, told, draw):
    word = draw.choice(sorted(BEHIND) + ["move", "move", "move", "throw", "undo", "begin"])
    names = job[0] + ("zz",)
    if word in ("move", "throw"):
        ways = sorted(dict(moves_from(job, told.stand())), key=repr)
        if ways and draw.random() < 0.8:
            move = draw.choice(ways)
            return "throw " + move[0] if move[1] is None else "move %s %s" % move
    return " ".join([word] + [draw.choice(names) for _ in range(BEHIND[word])])


class IsRequest(unittest.TestCase):
    def test_each_word_with_any_number_of_names(self):
        for word, many in BEHIND.items():
            for other in range(5):
                line = " ".join([word] + list(NAMES[:other]))
                self.assertIs(is_request(line), other == many, line)
                self.assertIs(is_request(line + " "), False, line)
                self.assertIs(is_request(" " + line), False, line)
                self.assertIs(is_request(line + "\n"), False, line)
                self.assertIs(is_request(line.upper()), False, line)
                self.assertIs(is_request(line.capitalize()), False, line)
                self.assertIs(is_request(line + "\nmany"), False, line)
                if " " in line:
                    self.assertIs(is_request(line.replace(" ", "  ")), False, line)
                    self.assertIs(is_request(line.replace(" ", "\t")), False, line)

    def test_names(self):
        for name, wanted in (("a", True), ("abcdefgh", True), ("abcdefghi", False), ("A", False), ("a1", False),
                             ("-", False), ("+a", False),
                             ("", False), ("move", True), ("a-b", False), ("\u00e9", False), ("a\n", False)):
            for line in ("move a %s", "move %s a", "throw %s", "where %s", "who %s"):
                self.assertIs(is_request(line % name), wanted, line % name)
        for line in ("move a b -", "move a -", "move a", "throw", "throw a -", "where", "who", "begin a", "look", "",
                     " ", "-", "moves", "mov", "lefts", "done", "carry a b", "step", "deeds", "len", "move,a,b",
                     "undo undo", "rule a"):
            self.assertIs(is_request(line), False, line)

    def test_no_strings(self):
        for thing in STRANGE + (("move", "a", "b"), ["begin"], ("begin",), (("begin",),), 7, None, True):
            self.assertIs(is_request(thing), False, thing)


class Replies(unittest.TestCase):
    def check(self, job, lines):
        told = Told(job)
        self.assertEqual(replies(job, "\n".join(lines)), [told.reply(line) for line in lines], (job, lines))

    def test_drawn_requests(self):
        draw, found = Random(1), {}
        for job in list(small_jobs())[::2] + list(WIDER_JOBS[:3]) + [JOB, FAR, SCRAP, LONE, STUCK, EMPTY]:
            told, lines, wanted = Told(job), [], []
            for _ in range(25):
                lines.append(drawn_line(job, told, draw))
                wanted.append(told.reply(lines[-1]))
                found.setdefault(lines[-1].split(" ")[0], set()).add(wanted[-1])
            self.assertEqual(replies(job, "\n".join(lines)), wanted, (job, lines))
        for word in ("again", "ended", "readable", "rule"):
            self.assertEqual(found[word], {"yes", "no"})
        for word in ("move", "throw"):
            self.assertEqual(found[word], {"done", "refused Impossible"})
        for word in ("where", "who"):
            self.assertTrue({"-", "refused NoName", "a", "b"} <= found[word])
        self.assertEqual(found["undo"], {"done", "refused NothingDone"})
        self.assertTrue({"-", "0", "1", "2", "3", "4", "5"} <= found["left"], found["left"])
        self.assertTrue({"-", "a"} <= found["sight"])

    def test_all_asked_at_moments_of_all_kinds(self):
        asked = [word for word, many in BEHIND.items() if many == 0 and word not in ("begin", "undo")]
        asked += ["%s %s" % (word, name) for word in ("where", "who") for name in NAMES]
        deeds = ("move c t", "move t c", "move c t", "move d c", "move t d", "undo", "move a b", "throw a",
                 "move t d", "begin", "undo", "move c t", "undo", "undo", "undo", "undo", "undo", "undo", "undo",
                 "undo", "undo")
        for job in (JOB, FAR, LONE, SCRAP):
            lines = list(asked)
            for deed in deeds:
                lines += [deed] + asked
            told = Told(job)
            wanted = [told.reply(line) for line in lines]
            # Sixty lines at once are enough; what is done ahead of them is done again.
            for at in range(0, len(lines), 20):
                ahead = [line for line in lines[:at] if line.split(" ")[0] in ("move", "throw", "begin", "undo")]
                part = ahead + lines[at:at + 20]
                self.assertEqual(replies(job, "\n".join(part))[len(ahead):], wanted[at:at + 20])

    def test_what_is_refused_changes_nothing(self):
        lines = ["move c t", "move c t", "move a d", "move zz a", "move a zz", "throw t", "where b", "who zz",
                 "sight", "many", "undo", "undo", "undo", "sight", "many"]
        self.assertEqual(replies(JOB, "\n".join(lines)),
                         ["done"] + ["refused Impossible"] * 5 + ["refused NoName"] * 2
                         + ["a d t", "1", "done", "refused NothingDone", "refused NothingDone", "a c d", "0"])
        self.check(JOB, lines)

    def test_seen_again_and_readable(self):
        lines = []
        for deed in ("many", "move c t", "move t c", "move c t", "move a b", "begin", "undo"):
            lines += [deed, "seen", "again", "readable", "many"]
        self.assertEqual(replies(JOB, "\n".join(lines))[5:20],
                         ["done", "1", "no", "yes", "1", "done", "0", "yes", "no", "2", "done", "1", "yes", "no", "3"])
        self.check(JOB, lines)

    def test_left_and_rule_of_great_jobs(self):
        for job in GREAT_JOBS:
            many = len([pair for pair in job[1] if pair[0] != pair[1]]) + len(rings_of(job))
            free = [place for place in job[0] if place not in dict(job[1])]
            room = len(free) + len([end for _, end in job[1] if end is None])
            chained = any(end is None or end in free for _, end in job[1])
            wanted = not rings_of(job) or chained and room >= 2
            left = "-" if rings_of(job) and not room else str(many)
            self.assertEqual(replies(job, "left\nrule\nmany\nreadable"), [left, "yes" if wanted else "no", "0", "yes"])

    def test_nothing_is_full(self):
        self.assertEqual(replies(EMPTY, "sight\nwho a\nwhere a\nended\nleft\nrule"),
                         ["-", "-", "refused NoName", "yes", "0", "yes"])
        self.assertEqual(replies((("a",), (("a", None),)), "sight\nthrow a\nsight\nwhere a\nended\nthrow a\nleft"),
                         ["a", "done", "-", "-", "yes", "refused Impossible", "0"])

    def test_a_new_board_each_time(self):
        for _ in range(2):
            self.assertEqual(replies(JOB, "many\nmove c t\nmany"), ["0", "done", "1"])
        self.assertEqual(replies(as_lists(JOB), "many\nmove c t\nmany"), ["0", "done", "1"])

    def test_sixty_lines(self):
        lines = ["move c t", "move t c"] * 29 + ["many", "seen"]
        self.assertEqual(replies(JOB, "\n".join(lines))[58:], ["58", "0"])
        board = Board(JOB)
        for line in lines[:58]:
            board.carry(*line.split(" ")[1:])
        self.assertEqual(board.deeds(), 58)


class BadLines(unittest.TestCase):
    def refused(self, text, number):
        for job in (JOB, EMPTY):
            with self.assertRaises(BadLine, msg=text) as held:
                replies(job, text)
            self.assertEqual(held.exception.number, number, text)

    def test_the_first_line_that_is_no_request(self):
        for text, number in (("look", 0), ("\n", 0), (" ", 0), ("many\n", 1), ("many\n\nmany", 1), ("\nmany", 0),
                             ("many\nlook\nlook", 1),
                             ("move a\nlook", 0), ("many\nmove a b c", 1), ("many \nlook", 0), ("many\r\nmany", 0),
                             ("many many", 0),
                             ("undo\nundo\nmove a A", 2), ("sight\nwhere a\nlook", 2), ("a" * 400, 0),
                             ("\n".join(["many"] * 59 + [""]), 59)):
            self.refused(text, number)

    def test_ahead_of_all_else(self):
        # What is refused by the Board comes first in the text, yet the line that is no request decides.
        self.refused("move zz zz\nundo\nwhere zz\nlook", 3)

    def test_no_line(self):
        self.assertEqual(replies(JOB, ""), [])
        first = replies(EMPTY, "")
        first.append("x")
        self.assertEqual(replies(EMPTY, ""), [])
        self.assertEqual(replies(EMPTY, "many"), ["0"])


if __name__ == "__main__":
    unittest.main()
