"""Texts ([17])."""

import re
import unittest
from random import Random

from namesalone.errors import BadLine, BadText
from namesalone.jobs import is_job
from namesalone.rules import a_rule, has_rule
from namesalone.texts import (job_read, job_text, move_read, move_text, plan_read, plan_text, rule_read, rule_text,
                              sight_read, sight_text, stand_read, stand_text)
from tests.support import (EMPTY, FAR, GREAT_JOBS, JOB, NAMES40, PLAN, SCRAP, WIDER_JOBS, as_lists, drawn_plan,
                           far_from_end, full_at, has_list, small_jobs, stands_of, start_of, walked_plan)

AWAY = (("c", "d", "z"), (("c", "d"), ("d", "c"), ("z", None)))
JOBS = list(small_jobs())[::2] + list(WIDER_JOBS) + list(GREAT_JOBS) + [JOB, FAR, SCRAP, EMPTY, AWAY]
RULE = ((("a", "c", "d"), ("c", "t")), (("a", "d", "t"), ("a", "b")), (("b", "c", "t"), ("t", "d")),
        (("b", "d", "t"), ("d", "c")))
SIGNS = "abz ->=:|,+.\nA0"


def written(name):
    return "-" if name is None else name


def move_by(move):
    return "%s>%s" % (move[0], written(move[1]))


def row_by(parts, between):
    return between.join(parts) if parts else "-"


def job_by(job):
    return "%s | %s" % (" ".join(job[0]), row_by([move_by(way) for way in job[1]], " "))


def plan_by(plan):
    return row_by([move_by(move) for move in plan], ", ")


def sight_by(sight):
    return row_by(sight, " ")


def stand_by(stand):
    return row_by(["%s=%s" % pair for pair in stand], " ")


def rule_by(rule):
    return row_by(["%s: %s" % (sight_by(sight), move_by(move)) for sight, move in rule], "\n")


# What each text that is rightly written looks like; the order and what is told twice are seen to elsewhere.
NAME = r"[a-z]{1,8}"
SIGHT, MOVE = r"(-|%s( %s)*)" % (NAME, NAME), r"%s>(-|%s)" % (NAME, NAME)
FORMS = {
    "move": MOVE,
    "job": r"%s( %s)* \| (-|%s( %s)*)" % (NAME, NAME, MOVE, MOVE),
    "plan": r"(-|%s(, %s)*)" % (MOVE, MOVE),
    "sight": SIGHT,
    "stand": r"(-|%s=%s( %s=%s)*)" % (NAME, NAME, NAME, NAME),
    "line": r"%s: %s" % (SIGHT, MOVE),
}


def is_right(kind, text):
    """Whether text is rightly written, by the words of the document."""
    if not re.fullmatch(FORMS[kind], text):
        return False
    if kind == "sight":
        return text == "-" or ascending(text.split(" "))
    if kind == "stand":
        pairs = [] if text == "-" else [spot.split("=") for spot in text.split(" ")]
        held = [pair[1] for pair in pairs]
        return ascending([pair[0] for pair in pairs]) and len(set(held)) == len(held)
    if kind == "job":
        places, goal = text.split(" | ")
        ways = [] if goal == "-" else [way.split(">") for way in goal.split(" ")]
        ends = [way[1] for way in ways if way[1] != "-"]
        if not {way[0] for way in ways} | set(ends) <= set(places.split(" ")) or len(set(ends)) < len(ends):
            return False
        return ascending(places.split(" ")) and ascending([way[0] for way in ways])
    return kind != "line" or is_right("sight", text.split(": ")[0])


def ascending(names):
    return names == sorted(set(names))


def changed(text, draw, many):
    """Texts that differ from text in one sign or in the order of two parts."""
    for _ in range(many):
        at = draw.randint(0, len(text))
        sign = draw.choice(SIGNS)
        yield draw.choice((text[:at] + sign + text[at:], text[:at] + text[at + 1:], text[:at] + sign + text[at + 1:]))
    words = text.split(" ")
    for _ in range(many // 3):
        one, other = draw.randrange(len(words)), draw.randrange(len(words))
        words[one], words[other] = words[other], words[one]
        yield " ".join(words)
        yield " ".join(words[:one] + words[one:one + 1] + words[one:])
    yield from (text + "\n", "\n" + text, " " + text, text + " ", text.upper(), text + text, text.replace(" ", "  "),
                "")


class Both(unittest.TestCase):
    """What is alike for all kinds of texts but rules: written, read back, and not read if changed."""

    def check(self, kind, write, read, by, values):
        draw, found = Random(1), []
        for value in values:
            text = write(value)
            self.assertEqual(text, by(value))
            self.assertEqual(write(as_lists(value)), text)
            back = read(text)
            self.assertEqual(repr(back), repr(value))
            self.assertFalse(has_list(back))
            for other in changed(text, draw, 30):
                wanted = is_right(kind, other)
                if wanted:
                    self.assertEqual(by(read(other)), other)
                    self.assertFalse(has_list(read(other)))
                else:
                    with self.assertRaises(BadText, msg=other):
                        read(other)
                found.append(wanted)
        self.assertGreater(found.count(True), 5)
        self.assertGreater(found.count(False), 50)

    def test_moves(self):
        moves = [("a", "b"), ("a", "a"), ("abcdefgh", "zzzzzzzz"), ("z", None), ("swap", None)]
        self.check("move", move_text, move_read, move_by, moves)

    def test_jobs(self):
        self.check("job", job_text, job_read, job_by, JOBS)

    def test_plans(self):
        draw = Random(3)
        plans = [(), (("a", None),), PLAN, (("zz", "y"), ("zz", "y")), tuple((name, None) for name in NAMES40 * 2)]
        plans += [walked_plan(job, draw, 2) for job in list(small_jobs())[::9] if start_of(job) in far_from_end(job)]
        self.check("plan", plan_text, plan_read, plan_by, plans + [drawn_plan(GREAT_JOBS[2], draw)])

    def test_sights(self):
        sights = [(), ("a",), ("a", "b"), ("a", "aa", "ab", "b"), ("abcdefgh", "zzzzzzzz"), NAMES40]
        self.check("sight", sight_text, sight_read, sight_by, sights + [full_at(start_of(job)) for job in JOBS])

    def test_stands(self):
        stands = [stand for job in JOBS[::20] if len(job[0]) < 5 for stand in list(stands_of(job))[:30]]
        stands += [(), (("a", "b"), ("b", "a")), start_of(GREAT_JOBS[1]), start_of(GREAT_JOBS[11]), (("zz", "a"),)]
        self.check("stand", stand_text, stand_read, stand_by, stands)


class NotRead(unittest.TestCase):
    def refused(self, read, texts):
        for text in texts:
            with self.assertRaises(BadText, msg=text):
                read(text)

    def test_moves(self):
        self.refused(move_read, ("", "-", ">", "a", "a>", ">b", "->a", "->-", "a>b>c", "a> b", "a >b", " a>b", "a>b ",
                                 "A>b", "a>B", "a>--", "abcdefghi>a", "a>abcdefghi", "a-b", "a>b\n", "a>1", "a,b",
                                 "a>b, c>d", "a>None"))
        self.assertEqual(move_read("abcdefgh>-"), ("abcdefgh", None))

    def test_jobs(self):
        self.refused(job_read, ("", "-", "a", "a |", "a | ", "| -", " | -", "a|-", "a  | -", "a |  -", "a | - ",
                                "- | -", "a b | a>c", "b a | -", "a a | -", "a b | b>a a>b", "a b | a>b a>b",
                                "a b | a>b b>b", "a b c | a>c b>c", "a b | a>b, b>a", "a b | a>b  b>a", "a b | - -",
                                "a | - | -", "a b | c>a", "a b, c | -", "a B | -", "a b | a", "a b | a=b", "a b\n| -",
                                "a b | a>b -", "a b | a>-b", "abcdefghi | -"))
        self.assertEqual(job_read("a b | a>b b>-"), (("a", "b"), (("a", "b"), ("b", None))))
        self.assertEqual(job_read("a | a>a"), (("a",), (("a", "a"),)))

    def test_jobs_of_many_places(self):
        names = tuple(sorted(one + other for one in "abcdefghij" for other in "abcdefghijkl"))
        for job in ((names, ()), (names, tuple((name, None) for name in names))):
            self.assertEqual(job_read(job_text(job)), job)
            self.assertIs(is_job(job_read(job_by(job))), True)

    def test_plans(self):
        self.refused(plan_read, ("", " ", "a>b,c>d", "a>b ,c>d", "a>b,  c>d", "a>b, ", ", a>b", "a>b,", "a>b, -",
                                 "-, a>b", "- ", "--", "a>b c>d", "a>b; c>d", "a>b\nc>d", "a>b, c", "a>b, c>D",
                                 "a>b, , c>d", "-, -"))
        self.assertEqual(plan_read("a>b, a>b, b>-"), (("a", "b"), ("a", "b"), ("b", None)))

    def test_sights(self):
        self.refused(sight_read, ("", " ", "a a", "b a", "a  b", " a", "a ", "a -", "- a", "- -", "--", "A", "a,b",
                                  "a, b", "a\nb", "abcdefghi", "a b ", "a b aa", "a1", "\u00e9"))
        self.assertEqual(sight_read("a aa b"), ("a", "aa", "b"))

    def test_stands(self):
        self.refused(stand_read, ("", " ", "a", "a=", "=a", "a=-", "-=a", "a==b", "a=b=c", "a=b a=c", "b=a a=b",
                                  "a=c b=c", "a=b  b=a", "a=b, b=a", "a=b b=a ", " a=b", "a=b -", "- -", "a>b", "A=b",
                                  "a=B", "a = b", "abcdefghi=a"))
        self.assertEqual(stand_read("a=z b=a"), (("a", "z"), ("b", "a")))

    def test_long_texts(self):
        long = "\n".join(["a b c d e f g h" * 26] * 60)
        for read in (move_read, job_read, plan_read, sight_read, stand_read):
            self.refused(read, (long, "a" * 400, ("-" * 400 + "\n") * 59, "a>b" * 130, "a " * 200, "=" * 400,
                                "a, " * 130))
        names = tuple(one + other for one in "abcdefghijk" for other in "abcdefghijkl")
        self.assertEqual(sight_read(" ".join(names)), names)


class Rules(unittest.TestCase):
    def rules(self):
        yield from ((), RULE, ((("a",), ("a", None)),), (((), ("a", "b")),), (((), ("a", "b")), (("a",), ("a", None))))
        yield from ((((), ("a", None)), (("a",), ("zz", "zz")), (("a", "aa"), ("a", "b")), (("a", "b"), ("a", "b"))),)
        yield from [a_rule(job) for job in JOBS if has_rule(job)][::4]

    def test_written_and_read_back(self):
        for rule in self.rules():
            text = rule_text(rule)
            self.assertEqual(text, rule_by(rule))
            self.assertEqual(rule_text(as_lists(rule)), text)
            self.assertEqual(repr(rule_read(text)), repr(rule))

    def first_bad(self, text):
        """The number of the first line that is not rightly written or does not stand behind the one ahead of it."""
        if text == "-":
            return None
        last = None
        for number, line in enumerate(text.split("\n")):
            if not is_right("line", line):
                return number
            sight = line.split(": ")[0]
            shown = [] if sight == "-" else sight.split(" ")
            if last is not None and not last < shown:
                return number
            last = shown
        return None

    def check(self, text):
        wanted = self.first_bad(text)
        if wanted is None:
            self.assertEqual(rule_by(rule_read(text)), text)
            self.assertFalse(has_list(rule_read(text)))
        else:
            with self.assertRaises(BadLine, msg=text) as held:
                rule_read(text)
            self.assertEqual(held.exception.number, wanted, text)
        return wanted

    def test_changed_rules(self):
        draw, found = Random(5), []
        for rule in self.rules():
            text = rule_text(rule)
            if len(rule) < 12:
                found += [self.check(other) for other in changed(text, draw, 60)]
                for _ in range(10):
                    lines = text.split("\n")
                    one, other = draw.randrange(len(lines)), draw.randrange(len(lines))
                    lines[one], lines[other] = lines[other], lines[one]
                    found.append(self.check("\n".join(lines)))
                    found.append(self.check("\n".join(lines[:one] + lines[one:one + 1] + lines[one:])))
        for number in (None, 0, 1, 2, 3):
            self.assertGreater(found.count(number), 10)

    def test_bad_lines(self):
        for text, number in (("", 0), ("a: a>b\n", 1), ("\n", 0), ("a: a>b\n\nb: a>b", 1), ("-\na: a>b", 0),
                             ("a: a>b\n-", 1),
                             ("a: a>b\na: a>c", 1), ("b: a>b\na: a>b", 1), ("a c: a>b\na b: c>d", 1),
                             ("a: a>b\n-: a>b", 1),
                             ("a b: a>b\na: a>b", 1), ("a : a>b", 0), ("a:a>b", 0), ("a:  a>b", 0), ("a: a>b ", 0),
                             ("a: -", 0),
                             ("a a: a>b", 0), ("b a: a>b", 0), (": a>b", 0), ("a: a>b: c>d", 0), ("a", 0), ("a>b", 0),
                             ("A: a>b", 0), ("a: a>b\nb: b>c\nc: c", 2), ("a: a>b\nc: b>c\nb: C>d\nx", 2),
                             ("-: a>b\n-: a>b", 1)):
            self.assertEqual(self.check(text), number, text)
        for text in ("-", "-: a>-", "-: a>b\na: a>b", "a: a>b\na aa: a>b\na b: a>b\nb: a>b", "zz: y>x"):
            self.assertIsNone(self.check(text), text)

    def test_the_first_bad_line_decides(self):
        right = ["%s: a>b" % name for name in NAMES40]
        for at in (0, 1, 20, 39):
            for bad in ("x", "", right[at - 1] if at else "A: a>b", "-: a>b" if at else "a a: a>b"):
                lines = right[:at] + [bad] + right[at + 1:]
                self.assertEqual(self.check("\n".join(lines + ["bad"])), at)
        self.assertIsNone(self.check("\n".join(right)))

    def test_sixty_lines_of_four_hundred_signs(self):
        # A SIGHT of 40 places with NAMEs as long as can be.
        wide = " ".join("aaaaaa" + name for name in NAMES40) + ": aaaaaaaa>-"
        self.assertEqual(len(wide), 371)
        self.assertIsNone(self.check("a: a>-\n" + wide))
        self.assertEqual(self.check("\n".join(["a" * 400] * 60)), 0)
        many = "\n".join("%s: a>b" % (one + other) for one in "abc" for other in "abcdefghijklmnopqrst")
        self.assertEqual(len(rule_read(many)), 60)


if __name__ == "__main__":
    unittest.main()
