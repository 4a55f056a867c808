"""Lists ([15])."""

import re
import unittest
from itertools import product
from random import Random

from namesalone.errors import BadText
from namesalone.jobs import is_job
from namesalone.lists import is_list, list_read, list_text, range_names, spread
from tests.support import EMPTY, FAR, GREAT_JOBS, JOB, SCRAP, STRANGE, WIDER_JOBS, as_lists, small_jobs

LETTERS = "abcdefghijklmnopqrstuvwxyz"
ITEM = r"[a-z]{1,8}(?:\.\.[a-z]{1,8})?"
WORD = re.compile(r"(\+)?(%s)(?:>(%s|-))?" % (ITEM, ITEM))


def names_between(item):
    """The NAMEs for which a NAME or a range stands, by the words of the document, None if it is neither."""
    if ".." not in item:
        return [item]
    first, last = item.split("..")
    if len(first) != len(last) or first[:-1] != last[:-1] or not first[-1] < last[-1]:
        return None
    return [first[:-1] + letter for letter in LETTERS if first[-1] <= letter <= last[-1]]


def singles_of(word):
    """The words without ranges for which the word stands, None if it is no word."""
    match = WORD.fullmatch(word)
    if match is None or match.group(1) and match.group(3):
        return None
    plus, item, end = match.groups()
    names = names_between(item)
    others = None if end in (None, "-") else names_between(end)
    if names is None or end not in (None, "-") and (others is None or len(others) != len(names)):
        return None
    if plus or end is None:
        return [(plus or "") + name for name in names]
    return [name + ">" + (others[at] if others else "-") for at, name in enumerate(names)]


def read_by_words(text):
    """The words one by one and the JOB, by the words of the document; None if text is no LIST."""
    rows = [singles_of(word) for word in text.split(" ")]
    if None in rows:
        return None
    words, goal, told = [word for row in rows for word in row], {}, []
    for word in words:
        name, _, end = word.lstrip("+").partition(">")
        told.append(name)
        if not word.startswith("+"):
            goal[name] = {"": name, "-": None}.get(end, end)
    ends = [end for end in goal.values() if end is not None]
    places = sorted(set(told) | set(ends))
    if len(set(told)) < len(told) or len(set(ends)) < len(ends) or len(places) > 40:
        return None
    return words, (tuple(places), tuple(sorted(goal.items())))


class Reading(unittest.TestCase):
    def check(self, text):
        wanted = read_by_words(text)
        self.assertIs(is_list(text), wanted is not None, text)
        if wanted is None:
            for own in (list_read, spread):
                with self.assertRaises(BadText):
                    own(text)
            return False
        words, job = wanted
        self.assertEqual(list_read(text), job, text)
        self.assertEqual(spread(text), " ".join(words), text)
        self.assertEqual(list_read(spread(text)), job)
        self.assertIs(is_job(job), True)
        return True

    def test_every_short_text(self):
        right = sum([self.check("".join(row)) for many in range(6) for row in product("ab>-+. ", repeat=many)])
        self.assertGreater(right, 100)

    def test_every_row_of_few_parts(self):
        parts = ("a", "b", "d", "a..b", "b..d", "x..y", "b..a", "aa", ">", "-", "+", " ", "..")
        right = sum([self.check("".join(row)) for row in product(parts, repeat=4)])
        right += sum([self.check(one + sign + other + " " + more) for one, sign, other, more in product(
            parts[:9], (">", ">-", "> ", "+"), parts[:9] + ("",), ("c", "+c", "c>-", "d..e>a..b", "+x", "a",
                                                                   "z>a..b"))])
        self.assertGreater(right, 200)

    def test_drawn_rows_of_words(self):
        draw, found = Random(1), []
        names = ("a", "b", "c", "pa", "pb", "pc", "qa", "qb", "qc", "z", "pa..pc", "qa..qc", "qa..qb", "pb..pc",
                 "xa..xh", "ya..yh", "ma..mz", "na..nz", "abcdefga..abcdefgc")
        for _ in range(3000):
            words = []
            for _ in range(draw.randint(1, 5)):
                one, other = draw.choice(names), draw.choice(names)
                words.append(draw.choice((one, "+" + one, one + ">-", one + ">" + other, one + ">" + other)))
            found.append(self.check(" ".join(words)))
        self.assertGreater(found.count(True), 200)
        self.assertGreater(found.count(False), 200)

    def test_blanks_and_other_signs(self):
        for text in ("", " ", "a ", " a", "a  b", "a\nb", "a\n", "\na", "a\tb", "a>b\r", "a> b", "a >b", "+ a",
                     "a .. b", "A", "a1", "a>B", "a>b>c", "a->b", "a>--", "a>+b", "++a", "+a>b", "+-", "-", "a,b",
                     "a=b", "a...c", "a..c..e", "..c", "a..", "a..c>-..-", ">-", ">", "+", "a>", "\u00e9",
                     "a>b c>d d>c +t ", "abcdefghi", "+abcdefghi", "a>abcdefghi", "abcdefgha..abcdefghc", "a" * 400):
            self.assertIs(is_list(text), False, text)
            self.assertIs(self.check(text), False, text)
        # Signs that stand beside the letters, at an end of what looks like a range.
        for text in ("a..{", "`..b", "A..c", "a..C", "aa..a{", "a`..ab", "a..{>-", "+`..b", "a..b>a..{", "`a..`b", "a..~"):
            self.assertIs(self.check(text), False, text)
        for text in ("abcdefgh", "+abcdefgh", "a>abcdefgh", "abcdefga..abcdefgc"):
            self.assertIs(self.check(text), True, text)

    def test_what_is_told_of_a_place(self):
        for text in ("a a", "a a>b", "a>b a>c", "a +a", "+a a>b", "+a +a", "a>- a", "a..c b", "a..c +b", "a>c b>c",
                     "a b>a", "a..b>c..d e>d", "a>b b", "+a..c +b", "a>- +a", "a..c>b..d a", "a..b>-  c"):
            self.assertIs(self.check(text), False, text)
        for text in ("a>b +b", "a>b b>a", "a>b b>-", "a>- b>-", "a>a", "a>b +b +c", "a..c>b..d +d", "a>- b>a",
                     "b>a +a", "a>b b>c c>a"):
            self.assertIs(self.check(text), True, text)

    def test_ranges_of_both_names_as_many_in_the_one_as_in_the_other(self):
        for text in ("a..c>x", "x>a..c", "a..c>x..y", "a..b>x..z", "a..b>c>d", "a..b>xx..xy z>x..y"):
            self.assertIs(self.check(text), False, text)
        self.assertEqual(list_read("b..c>a..b"), (("a", "b", "c"), (("b", "a"), ("c", "b"))))
        self.assertEqual(list_read("a..c>a..c"), (("a", "b", "c"), (("a", "a"), ("b", "b"), ("c", "c"))))
        self.assertEqual(list_read("a..b>-"), (("a", "b"), (("a", None), ("b", None))))
        self.assertEqual(list_read("+a..c"), (("a", "b", "c"), ()))
        self.assertEqual(spread("a..c>b..d x..y>- +t..u k"), "a>b b>c c>d x>- y>- +t +u k")

    def test_words_in_any_order(self):
        draw = Random(3)
        for job in list(small_jobs(3)) + [JOB, FAR]:
            words = list_text(job).split(" ")
            draw.shuffle(words)
            self.assertEqual(list_read(" ".join(words)), job)
            self.assertEqual(spread(" ".join(words)), " ".join(words))
        self.assertEqual(spread("+t d>c a..b c>d"), "+t d>c a b c>d")

    def test_forty_places_and_one_more(self):
        rows = (("aa..az ba..bn", " ca"), ("+aa..az +ba..bn", " +ca"), ("aa..at>ba..bt", " ca"),
                ("aa..at>ba..bt", " +ca"),
                ("aa..as>ba..bs ca cb", " cc>-"), ("aa..at>ba..bt", " ba>ca"), ("aa..az>- +ba..bn", " ca>-"))
        for text, more in rows:
            self.assertIs(self.check(text), True, text)
            self.assertEqual(len(list_read(text)[0]), 40)
            self.assertIs(self.check(text + more), False, text + more)
        self.assertIs(self.check("aa..at>ba..bt ba..bt>aa..at"), True)
        self.assertIs(self.check("ma..mz na..nz"), False)

    def test_long_texts(self):
        text = " ".join("%s>%s" % (one, other) for one, other in zip(self.long_names("x"), self.long_names("y")))
        self.assertIs(self.check(text), True)
        self.assertEqual(len(list_read(text)[0]), 40)
        for other in ((text + "\n") * 60, "a>b " * 100, "+" * 400, "." * 400, "a.." * 130, "\n".join(["a" * 400] * 60),
                      " ".join(["a..z"] * 80)):
            self.assertIs(self.check(other), False)

    def long_names(self, letter):
        return [letter * 6 + "a" + other for other in LETTERS[:20]]

    def test_no_text(self):
        for thing in STRANGE + (None, 7, True, ["a"], ("a", ">", "b"), (("a", "b"),)):
            wanted = isinstance(thing, str) and read_by_words(thing) is not None
            self.assertIs(is_list(thing), wanted, thing)
        self.assertIs(is_list("zz"), True)


class RangeNames(unittest.TestCase):
    def test_all_short_names(self):
        names = [one + other for one in ("", "a", "b", "ab", "ba") for other in "abmz"] + ["abcdefgh", "abcdefgx",
                                                                                           "bbcdefgh"]
        many = 0
        for first in names:
            for last in names:
                wanted = names_between(first + ".." + last)
                if wanted is None:
                    with self.assertRaises(BadText):
                        range_names(first, last)
                else:
                    self.assertEqual(range_names(first, last), tuple(wanted))
                    many += 1
        self.assertEqual(many, 5 * 6 + 1)

    def test_ranges_and_none(self):
        self.assertEqual(range_names("a", "z"), tuple(LETTERS))
        self.assertEqual(range_names("y", "z"), ("y", "z"))
        self.assertEqual(range_names("qx", "qz"), ("qx", "qy", "qz"))
        for first, last in (("b", "b"), ("b", "a"), ("ab", "b"), ("a", "bb"), ("ab", "bc"), ("aab", "aca"),
                            ("za", "zz" * 2)):
            with self.assertRaises(BadText):
                range_names(first, last)


class Writing(unittest.TestCase):
    def test_written_and_read_back(self):
        for job in list(small_jobs()) + list(WIDER_JOBS) + list(GREAT_JOBS) + [JOB, FAR, SCRAP, EMPTY]:
            text = list_text(job)
            self.assertEqual(text, self.by_words(job))
            self.assertIs(is_list(text), True)
            self.assertEqual(list_read(text), job)
            self.assertEqual(spread(text), text)
            self.assertEqual(list_text(as_lists(job)), text)

    def by_words(self, job):
        goal = dict(job[1])
        words = [box if end == box else "%s>%s" % (box, end or "-") for box, end in sorted(goal.items())]
        free = [place for place in job[0] if place not in goal and place not in goal.values()]
        return " ".join(words + ["+" + place for place in sorted(free)])

    def test_free_places_to_which_a_box_goes_are_not_told(self):
        self.assertEqual(list_text((("a", "b", "c"), (("b", "a"),))), "b>a +c")
        self.assertEqual(list_text((("a", "b"), ())), "+a +b")
        self.assertEqual(list_text((("a", "b"), (("a", None), ("b", "b")))), "a>- b")


if __name__ == "__main__":
    unittest.main()
