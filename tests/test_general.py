"""What holds for every function of the package: [2], [3] and the names of [19]."""

import copy
import importlib
import inspect
import unittest

from namesalone import (alike, board, counts, desk, errors, fences, fewest, jobs, kinds, lists, looks, moves, rules,
                        sizes,
                        swaps, texts)
from namesalone.errors import BadLine, BadText, Impossible, NoName, NoNumber, NoPlan, NoRule
from tests.support import (FAR, GREAT_JOBS, JOB, LONE, PLAN, SCRAP, STRANGE, STUCK, as_lists, has_list,
                           with_one_list)

STAND = (("a", "a"), ("d", "d"), ("t", "c"))
BEHIND = (("b", "a"), ("d", "d"), ("t", "c"))
# A PLAN with two moments alike, a RULE that tells more SIGHTS than are seen, and FENCED MOVES.
BAD = (("c", "t"), ("d", "c"), ("t", "d"), ("a", "b"))
RULE = ((("a", "c", "d"), ("c", "t")), (("a", "d", "t"), ("a", "b")), (("b",), ("b", None)),
        (("b", "c", "t"), ("t", "d")), (("b", "d", "t"), ("d", "c")))
STEPS = (("c", "t"), "|", ("a", "b"), "|", ("d", "c"), ("t", "d"))
LESS = STEPS[:3] + STEPS[4:]
# KINDS that leave a RING of JOB silent, those that leave none of LONE so, and a RULE BY KINDS for the latter.
KINDS = (("a", "red"), ("c", "blue"), ("d", "blue"))
ODD = (("c", "blue"), ("d", "red"))
BY_KINDS = ((ODD, ("c", "t")), ((("c", "red"), ("t", "blue")), ("t", "d")), ((("d", "red"), ("t", "blue")), ("d", "c")))
TREE = ("c", ("a", 0, ("d", 4, 3)), ("a", 1, 2))
SWAPS = (("swap", "c", "d"), ("a", "b"))
# SIZES by which both RINGS of TWO open, and such by which one does.
TWO = (("c", "d", "e", "f", "t"), (("c", "d"), ("d", "c"), ("e", "f"), ("f", "e")))
SIZES = ((("c", 2), ("d", 2), ("e", 3), ("f", 3), ("t", 1)), (("c", 1), ("d", 2), ("e", 2), ("f", 3)))
TIGHT = (SIZES[0][:2] + (("e", 5), ("f", 5), ("t", 1)), SIZES[1][:2] + (("e", 4), ("f", 5)))
NESTED = (("c", "t"), ("d", "c"), ("e", "d"), ("f", "e"), ("d", "f"), ("t", "d"))

# Each function with a call of it, by the names of the interface, in their order.
CALLS = [
    (jobs.is_job, {"thing": JOB}),
    (jobs.boxes, {"job": JOB}),
    (jobs.free_places, {"job": JOB}),
    (jobs.staying, {"job": FAR}),
    (jobs.thrown, {"job": FAR}),
    (jobs.goes_to, {"job": JOB, "box": "c"}),
    (jobs.rings, {"job": JOB}),
    (jobs.chains, {"job": FAR}),
    (jobs.back_job, {"job": JOB}),
    (jobs.then_job, {"job": JOB, "other": (JOB[0], (("b", "a"), ("c", None), ("d", "d")))}),
    (jobs.renamed_job, {"job": FAR, "pairs": (("p", "z"), ("z", "p"))}),
    (jobs.with_places, {"job": FAR, "names": ("a", "x")}),
    (moves.possible, {"job": JOB, "stand": STAND, "move": ("t", "c")}),
    (moves.first_stand, {"job": JOB}),
    (moves.is_stand, {"job": JOB, "thing": STAND}),
    (moves.is_end, {"job": JOB, "stand": STAND}),
    (moves.all_possible, {"job": SCRAP, "stand": (("p", "p"), ("q", "q"))}),
    (moves.after, {"job": JOB, "stand": STAND, "move": ("a", "b")}),
    (moves.move_between, {"job": JOB, "one": STAND, "other": BEHIND}),
    (moves.where_is, {"job": JOB, "stand": STAND, "box": "c"}),
    (moves.what_is_at, {"job": JOB, "stand": STAND, "place": "t"}),
    (moves.sight_of, {"stand": STAND}),
    (moves.left_job, {"job": JOB, "stand": STAND}),
    (moves.is_plan, {"job": JOB, "thing": PLAN}),
    (moves.stand_at, {"job": JOB, "plan": PLAN, "moment": 2}),
    (moves.sights, {"job": JOB, "plan": PLAN}),
    (fewest.can_be_done, {"job": JOB}),
    (fewest.fewest_moves, {"job": JOB}),
    (fewest.a_plan, {"job": JOB}),
    (fewest.is_fewest, {"job": JOB, "thing": PLAN}),
    (fewest.first_moves, {"job": JOB}),
    (fewest.how_often, {"job": JOB, "plan": PLAN}),
    (alike.is_alike, {"job": JOB, "plan": BAD, "one": 3, "other": 0}),
    (alike.alike_pairs, {"job": JOB, "plan": BAD}),
    (alike.is_readable, {"job": JOB, "plan": BAD}),
    (alike.first_alike, {"job": JOB, "plan": BAD}),
    (alike.moments_of, {"job": JOB, "plan": BAD, "sight": ("a", "c", "d")}),
    (alike.how_many_sights, {"job": JOB, "plan": BAD}),
    (alike.moves_of, {"job": JOB, "plan": PLAN, "ring": ("c", "d")}),
    (alike.open_rings, {"job": JOB, "plan": PLAN, "moment": 2}),
    (alike.rings_between, {"job": JOB, "plan": BAD, "one": 0, "other": 3}),
    (alike.first_whole, {"job": JOB, "plan": BAD}),
    (rules.has_rule, {"job": JOB}),
    (rules.why_none, {"job": STUCK}),
    (rules.places_needed, {"job": (JOB[0][:4], JOB[1])}),
    (rules.a_rule, {"job": JOB}),
    (rules.rule_of, {"job": JOB, "plan": PLAN}),
    (rules.is_rule, {"job": JOB, "thing": RULE}),
    (rules.move_at, {"rule": RULE, "sight": ("a", "d", "t")}),
    (rules.followed, {"job": JOB, "rule": RULE}),
    (rules.seen_at, {"job": JOB, "rule": RULE, "sight": ("b", "c", "d")}),
    (rules.unseen, {"job": JOB, "rule": RULE}),
    (counts.how_many_plans, {"job": JOB}),
    (counts.nth_plan, {"job": JOB, "number": 7}),
    (counts.number_of_plan, {"job": JOB, "plan": BAD}),
    (counts.how_many_readable, {"job": JOB}),
    (counts.nth_readable, {"job": JOB, "number": 3}),
    (counts.number_of_readable, {"job": JOB, "plan": PLAN}),
    (counts.readable_begin_moves, {"job": JOB}),
    (fences.is_fenced, {"job": JOB, "thing": STEPS}),
    (fences.moves_in, {"steps": STEPS}),
    (fences.lasting, {"job": JOB, "steps": LESS}),
    (fences.stands_by, {"job": JOB, "steps": LESS, "sight": ("a", "c", "d")}),
    (fences.told_alike, {"job": JOB, "steps": LESS}),
    (fences.is_tellable, {"job": JOB, "steps": STEPS}),
    (fences.fewest_fences, {"job": JOB}),
    (fences.a_fenced, {"job": JOB}),
    (fences.fences_for, {"job": JOB, "plan": PLAN}),
    (kinds.is_kinds, {"job": JOB, "thing": KINDS}),
    (kinds.silent_rings, {"job": JOB, "kinds": KINDS}),
    (kinds.sights_by, {"job": JOB, "kinds": KINDS, "plan": BAD}),
    (kinds.is_readable_by, {"job": JOB, "kinds": KINDS, "plan": BAD}),
    (kinds.first_alike_by, {"job": JOB, "kinds": KINDS, "plan": BAD}),
    (kinds.has_rule_by, {"job": (JOB[0][:4], JOB[1]), "kinds": KINDS}),
    (kinds.rule_by, {"job": JOB, "kinds": KINDS, "plan": PLAN}),
    (kinds.a_plan_by, {"job": LONE, "kinds": ODD}),
    (kinds.is_rule_by, {"job": LONE, "kinds": ODD, "thing": BY_KINDS}),
    (kinds.painted, {"job": JOB, "box": "c"}),
    (kinds.to_paint, {"job": LONE}),
    (looks.moments_with, {"job": JOB, "plan": PLAN, "place": "b"}),
    (looks.is_watch, {"job": JOB, "plan": PLAN, "some": ("a", "c", "d")}),
    (looks.watch, {"job": JOB, "plan": PLAN}),
    (looks.fewest_looks, {"job": JOB, "plan": PLAN}),
    (looks.a_tree, {"job": JOB, "plan": PLAN}),
    (looks.is_tree, {"job": JOB, "plan": PLAN, "thing": TREE}),
    (looks.moment_by, {"tree": TREE, "sight": ("b", "c", "t")}),
    (looks.tree_depth, {"tree": TREE}),
    (swaps.step_after, {"job": JOB, "stand": STAND, "step": ("swap", "a", "t")}),
    (swaps.are_steps, {"job": JOB, "thing": SWAPS}),
    (swaps.how_many_swaps, {"steps": SWAPS}),
    (swaps.fewest_steps, {"job": JOB}),
    (swaps.a_few_steps, {"job": JOB}),
    (swaps.are_fewest_steps, {"job": JOB, "thing": SWAPS}),
    (swaps.fewest_steps_with, {"job": JOB, "many": 0}),
    (swaps.some_steps_with, {"job": JOB, "many": 1}),
    (swaps.swaps_for, {"job": JOB, "number": 3}),
    (swaps.blind_steps, {"job": JOB, "steps": SWAPS}),
    (swaps.blind_steps_by, {"job": JOB, "kinds": KINDS, "steps": SWAPS}),
    (sizes.is_sizes, {"job": TWO, "thing": SIZES}),
    (sizes.fits, {"job": TWO, "sizes": TIGHT, "box": "e", "place": "c"}),
    (sizes.hole_of, {"job": TWO, "sizes": SIZES}),
    (sizes.opening, {"job": TWO, "sizes": SIZES}),
    (sizes.shut_rings, {"job": TWO, "sizes": TIGHT}),
    (sizes.can_be_done_by, {"job": TWO, "sizes": SIZES}),
    (sizes.a_plan_by_sizes, {"job": TWO, "sizes": SIZES}),
    (sizes.is_plan_by_sizes, {"job": TWO, "sizes": SIZES, "thing": NESTED}),
    (sizes.place_needed, {"job": TWO, "sizes": TIGHT}),
    (lists.is_list, {"thing": "a..c>b..d +t"}),
    (lists.list_read, {"text": "a>b c>d d>c +t"}),
    (lists.list_text, {"job": FAR}),
    (lists.spread, {"text": "+t pa..pc>qa..qc z>-"}),
    (lists.range_names, {"first": "ma", "last": "mc"}),
    (texts.move_text, {"move": ("z", None)}),
    (texts.job_text, {"job": FAR}),
    (texts.plan_text, {"plan": PLAN}),
    (texts.sight_text, {"sight": ("a", "c")}),
    (texts.stand_text, {"stand": STAND}),
    (texts.rule_text, {"rule": RULE}),
    (texts.move_read, {"text": "z>-"}),
    (texts.job_read, {"text": "c d z | c>d d>c z>-"}),
    (texts.plan_read, {"text": "c>t, z>-"}),
    (texts.sight_read, {"text": "a c"}),
    (texts.stand_read, {"text": "a=a t=c"}),
    (texts.rule_read, {"text": "a c d: c>t\na d t: a>b"}),
    (desk.is_request, {"thing": "move a b"}),
    (desk.replies, {"job": JOB, "text": "left\nmove c t\nsight\nthrow a"}),
]

# Calls that raise, with the error and what it keeps.
FAILURES = [
    (jobs.goes_to, {"job": JOB, "box": "b"}, NoName, {"name": "b"}),
    (moves.after, {"job": JOB, "stand": STAND, "move": ("a", "t")}, Impossible, {"move": ("a", "t")}),
    (moves.where_is, {"job": JOB, "stand": STAND, "box": "t"}, NoName, {"name": "t"}),
    (moves.what_is_at, {"job": JOB, "stand": STAND, "place": "x"}, NoName, {"name": "x"}),
    (moves.stand_at, {"job": JOB, "plan": PLAN, "moment": -1}, NoNumber, {"number": -1}),
    (moves.stand_at, {"job": JOB, "plan": PLAN[1:], "moment": 0}, Impossible, {"move": ("d", "c")}),
    (moves.sights, {"job": JOB, "plan": PLAN + PLAN}, Impossible, {"move": ("a", "b")}),
    (fewest.fewest_moves, {"job": STUCK}, NoPlan, {}),
    (fewest.a_plan, {"job": STUCK}, NoPlan, {}),
    (fewest.first_moves, {"job": STUCK}, NoPlan, {}),
    (alike.is_alike, {"job": JOB, "plan": BAD, "one": -1, "other": 5}, NoNumber, {"number": -1}),
    (alike.open_rings, {"job": JOB, "plan": BAD, "moment": 5}, NoNumber, {"number": 5}),
    (alike.rings_between, {"job": JOB, "plan": BAD, "one": 0, "other": 10 ** 40}, NoNumber, {"number": 10 ** 40}),
    (rules.a_rule, {"job": STUCK}, NoRule, {}),
    (rules.rule_of, {"job": JOB, "plan": BAD}, NoRule, {}),
    (counts.nth_plan, {"job": JOB, "number": 12}, NoNumber, {"number": 12}),
    (counts.nth_readable, {"job": JOB, "number": -10 ** 40}, NoNumber, {"number": -10 ** 40}),
    (fences.a_fenced, {"job": STUCK}, NoRule, {}),
    (kinds.a_plan_by, {"job": LONE, "kinds": (("c", "x"), ("d", "x"))}, NoRule, {}),
    (kinds.rule_by, {"job": JOB, "kinds": KINDS, "plan": BAD}, NoRule, {}),
    (kinds.painted, {"job": JOB, "box": "b"}, NoName, {"name": "b"}),
    (kinds.to_paint, {"job": STUCK}, NoPlan, {}),
    (looks.moments_with, {"job": JOB, "plan": PLAN, "place": "x"}, NoName, {"name": "x"}),
    (swaps.step_after, {"job": JOB, "stand": STAND, "step": ("swap", "a", "b")}, Impossible,
     {"move": ("swap", "a", "b")}),
    (swaps.step_after, {"job": JOB, "stand": STAND, "step": ("a", None)}, Impossible, {"move": ("a", None)}),
    (swaps.some_steps_with, {"job": STUCK, "many": 0}, NoPlan, {}),
    (sizes.fits, {"job": TWO, "sizes": SIZES, "box": "t", "place": "x"}, NoName, {"name": "t"}),
    (sizes.fits, {"job": TWO, "sizes": SIZES, "box": "c", "place": "x"}, NoName, {"name": "x"}),
    (sizes.a_plan_by_sizes, {"job": TWO, "sizes": TIGHT}, NoPlan, {}),
    (lists.list_read, {"text": "a>c b>c"}, BadText, {}),
    (lists.spread, {"text": "a..c>x"}, BadText, {}),
    (lists.range_names, {"first": "b", "last": "b"}, BadText, {}),
    (texts.move_read, {"text": "a"}, BadText, {}),
    (texts.job_read, {"text": "a b | a>c"}, BadText, {}),
    (texts.plan_read, {"text": ""}, BadText, {}),
    (texts.sight_read, {"text": "b a"}, BadText, {}),
    (texts.stand_read, {"text": "a=b c=b"}, BadText, {}),
    (texts.rule_read, {"text": "a c: a>b\na b: c>d"}, BadLine, {"number": 1}),
    (desk.replies, {"job": JOB, "text": "many\nmove zz a\nlook"}, BadLine, {"number": 2}),
]

LISTS = ("all_possible", "alike_pairs", "unseen", "lasting", "stands_by", "replies")
FILES = {"jobs": 12, "moves": 14, "fewest": 6, "alike": 10, "rules": 10, "counts": 7, "fences": 9, "kinds": 11,
         "looks": 8, "swaps": 11, "sizes": 9, "lists": 5, "texts": 12, "desk": 2}


def listed(values):
    """The arguments with lists for tuples, but for a thing, which is taken as it is."""
    return {name: value if name == "thing" else as_lists(value) for name, value in values.items()}


def half_listed(values):
    """The arguments, each with a list at its top alone."""
    return {name: list(value) if isinstance(value, tuple) and name != "thing" else value
            for name, value in values.items()}


class Interface(unittest.TestCase):
    def test_each_name_is_defined_in_its_own_file(self):
        wanted = {file: [] for file in FILES}
        for own, _ in CALLS:
            wanted[own.__module__.split(".")[1]].append(own.__name__)
        self.assertEqual({file: len(names) for file, names in wanted.items()}, FILES)
        for file, names in wanted.items():
            module = importlib.import_module("namesalone." + file)
            for name in names:
                self.assertTrue(inspect.isfunction(getattr(module, name)), name)

    def test_the_class_and_the_errors_are_defined_in_their_own_files(self):
        self.assertTrue(inspect.isclass(board.Board))
        self.assertEqual(board.Board.__module__, "namesalone.board")
        found = {name: own.__bases__ for name, own in vars(errors).items() if inspect.isclass(own)}
        self.assertEqual(found, {**{name: (LookupError,) for name in ("NoName", "NoNumber", "NothingDone")},
                                 **{name: (ValueError,) for name in ("Impossible", "NoPlan", "NoRule", "BadText",
                                                                     "BadLine")}})

    def test_arguments_have_the_names_of_the_interface(self):
        for own, values in CALLS:
            with self.subTest(own.__name__):
                self.assertEqual(list(inspect.signature(own).parameters), list(values))


class EveryFunction(unittest.TestCase):
    def test_by_position_by_name_and_again(self):
        for own, values in CALLS:
            with self.subTest(own.__name__):
                first = own(*values.values())
                self.assertEqual(own(**values), first)
                self.assertEqual(own(**dict(reversed(values.items()))), first)
                self.assertEqual(own(*values.values()), first)

    def test_lists_for_tuples_give_the_same_made_of_tuples(self):
        for own, values in CALLS:
            for changed in (listed(values), half_listed(values)):
                with self.subTest(own.__name__):
                    out = own(**changed)
                    self.assertEqual(repr(out), repr(own(**values)))
                    self.assertFalse(has_list(tuple(out) if own.__name__ in LISTS else out))

    def test_each_list_stands_for_itself_alone(self):
        # One argument in lists, the others in tuples: none is compared with another as it came.
        for own, values in CALLS:
            for name in values:
                with self.subTest(own.__name__, name=name):
                    changed = {**values, name: listed(values)[name]}
                    self.assertEqual(repr(own(**changed)), repr(own(**values)))

    def test_arguments_stay_as_they_were(self):
        for own, values in CALLS:
            changed = listed(values)
            kept = copy.deepcopy(changed)
            own(**changed)
            with self.subTest(own.__name__):
                self.assertEqual(changed, kept)

    def test_a_returned_list_is_new_and_belongs_to_the_caller(self):
        for own, values in CALLS:
            if own.__name__ in LISTS:
                first = own(**values)
                self.assertIsInstance(first, list)
                kept = list(first)
                first.clear()
                self.assertEqual(own(**values), kept)

    def test_errors_keep_tuples_and_come_again(self):
        for own, values, error, kept in FAILURES:
            for changed in (values, listed(values), half_listed(values), values):
                with self.subTest(own.__name__):
                    before = copy.deepcopy(changed)
                    with self.assertRaises(error) as held:
                        own(**changed)
                    self.assertIs(held.exception.__class__, error)
                    self.assertEqual(repr(vars(held.exception)), repr(kept))
                    self.assertEqual(changed, before)

    def test_results_may_be_passed_in_again(self):
        for job in GREAT_JOBS:
            more = jobs.with_places(job, ("x", "y"))
            self.assertTrue(jobs.is_job(more))
            self.assertEqual(jobs.free_places(more), jobs.free_places(job) + ("x", "y"))
            self.assertTrue(fewest.is_fewest(more, fewest.a_plan(more)))
            if rules.has_rule(more):
                rule = rules.a_rule(more)
                self.assertTrue(rules.is_rule(more, rule))
                self.assertEqual(rules.rule_of(more, rules.followed(more, rule)[0]), rule)
                self.assertTrue(fewest.is_fewest(more, fences.moves_in(fences.a_fenced(more))))


class AnyThing(unittest.TestCase):
    def test_strange_things_give_false_and_raise_nothing(self):
        deep = "a"
        for _ in range(12):
            deep = (deep,)
        for thing in STRANGE + (deep, [deep], ((), True), (True, ()), ([], []), ((("a", "b"),), ())):
            with self.subTest(thing=thing):
                self.assertIs(moves.is_stand(JOB, thing), False)
                self.assertIs(moves.is_plan(JOB, thing), False)
                self.assertIs(fewest.is_fewest(JOB, thing), False)
                self.assertIs(rules.is_rule(JOB, thing), False)
                self.assertIs(fences.is_fenced(JOB, thing), False)
                self.assertIs(kinds.is_kinds(JOB, thing), False)
                self.assertIs(kinds.is_rule_by(JOB, KINDS, thing), False)
                self.assertIs(looks.is_tree(JOB, PLAN, thing), False)
                self.assertIs(swaps.are_steps(JOB, thing), False)
                self.assertIs(swaps.are_fewest_steps(JOB, thing), False)
                self.assertIs(sizes.is_sizes(JOB, thing), False)
                self.assertIs(sizes.is_plan_by_sizes(TWO, SIZES, thing), False)
                self.assertIs(lists.is_list(thing), thing in ("zz", "a b"))
                self.assertIs(desk.is_request(thing), False)
                self.assertIs(jobs.is_job(thing), False)

    def test_a_list_is_no_tuple_at_any_depth(self):
        for own, values in CALLS:
            if "thing" not in values:
                continue
            self.assertIs(own(**values), True)
            others = {name: value for name, value in values.items() if name != "thing"}
            for changed in with_one_list(values["thing"]):
                with self.subTest(own.__name__, changed=changed):
                    self.assertIs(own(**others, thing=changed), False)

    def test_things_beyond_the_bounds(self):
        names = tuple(one + two + three for one in "abcdefghijklmnop" for two in "abcdefghij" for three in "xyz")
        great = (names, tuple((name, name) for name in names[1:]))
        self.assertIs(jobs.is_job(great), True)
        self.assertIs(jobs.is_job((names, great[1] + (("zzz", "zzz"),))), False)
        self.assertIs(moves.is_stand(great, moves.first_stand(great)), True)
        turn = (("c", "t"), ("t", "c")) * 500
        self.assertIs(moves.is_plan(JOB, turn + PLAN), True)
        self.assertIs(moves.is_plan(JOB, turn), False)
        self.assertIs(fewest.is_fewest(JOB, turn + PLAN), False)


if __name__ == "__main__":
    unittest.main()
