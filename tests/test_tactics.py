"""Tactics [240] to [246], and filling unfinished proofs."""

import random
import unittest

from openrules.errors import TacticFailed
from openrules.goals import case_goal, initial_goal
from openrules.kernel import check_argument
from openrules.rules import numbered_rule
from openrules.statements import is_valid_statement, numbered_statement
from openrules.tactics import filled, run_tactic
from samples import FINISH, GOAL, LATER, NAT_Z, NATURALS, RIGHT, SCOPE, TWO, Z
from samples import broad, chain, doubling_case, nested
from slow import slow_tactic

P, Q, R, A, B, C = ("p",), ("q",), ("r",), ("a",), ("b",), ("c",)
ANY = ("any",)
DONE = (("done", 0, ()), ())
SKIP = ("then", ())


def fact(name, atom=P):
    """A rule without premises."""
    return (name, (), atom)


def goal_of(*atoms, values=(), bounds=()):
    """A goal with these atoms as hypotheses."""
    bounds = tuple(bounds) + (len(atoms) - len(bounds)) * (None,)
    return (values, tuple(zip(atoms, bounds)))


def scope_of(rules=(), *statements):
    """A scope with theorems t0, t1 and so on of blocks of their own."""
    return (rules, tuple((False, ((f"t{place}", statement, ()),)) for place, statement in enumerate(statements)))


class TacticsTest(unittest.TestCase):

    def leaves(self, expected, goals, scope, goal, tactic, claim="t0"):
        """Whether the tactic makes this unfinished proof and leaves these goals."""
        self.assertEqual(run_tactic(scope, claim, goal, tactic), (expected, tuple(goals)))
        self.assertEqual(slow_tactic(scope, claim, goal, tactic), (expected, tuple(goals)))
        if not goals:
            self.assertIsNone(check_argument(scope, claim, goal, expected))

    def fails(self, reason, scope, goal, tactic, claim="t0"):
        with self.assertRaises(TacticFailed) as caught:
            run_tactic(scope, claim, goal, tactic)
        self.assertEqual(vars(caught.exception), {"reason": reason})
        self.assertEqual(slow_tactic(scope, claim, goal, tactic), reason)


class ExamplesTest(TacticsTest):

    def test_examples(self):
        self.leaves(LATER, (), SCOPE, GOAL, ("then", (("apply", "addZero", None, ()), ("auto", 1))), "addZero")
        self.fails("search", SCOPE, GOAL, ("auto", 1), "addZero")
        self.leaves(None, (GOAL,), SCOPE, GOAL, SKIP, "addZero")
        self.assertEqual(filled((("rule", "natZ", (), ()), (("", None),)), (DONE,)), (("rule", "natZ", (), ()), FINISH))

    def test_the_other_case(self):
        goal = case_goal(RIGHT, NAT_Z)
        self.leaves((("rule", "addZ", (Z,), ()), FINISH), (), SCOPE, goal, ("auto", 1), "addZero")
        self.fails("search", SCOPE, goal, ("auto", 0), "addZero")


class FilledTest(unittest.TestCase):

    def test_none(self):
        self.assertIsNone(filled(None, (None,)))
        self.assertEqual(filled(None, (DONE,)), DONE)
        self.assertEqual(filled(DONE, ()), DONE)
        self.assertEqual(filled(LATER, ()), LATER)

    def test_part_by_part(self):
        """The Nones are counted in the first part first, however deep they stand."""
        step = ("invert", 0)
        proofs = tuple((("done", number, ()), ()) for number in range(4))
        argument = (step, (("a", None), ("b", (step, (("c", None), ("", None)))), ("d", None)))
        self.assertEqual(filled(argument, proofs), (step, (
            ("a", proofs[0]), ("b", (step, (("c", proofs[1]), ("", proofs[2])))), ("d", proofs[3]))))
        self.assertEqual(filled(argument, (None, proofs[0], None, None)), (step, (
            ("a", None), ("b", (step, (("c", proofs[0]), ("", None)))), ("d", None))))
        self.assertEqual(filled(argument, 4 * (None,)), argument)

    def test_unfinished_proofs(self):
        step = ("invert", 0)
        inner = (step, (("x", None), ("y", DONE), ("z", None)))
        argument = (step, (("a", None), ("b", None)))
        self.assertEqual(filled(argument, (inner, None)), (step, (("a", inner), ("b", None))))
        self.assertEqual(filled(argument, (DONE, inner)), (step, (("a", DONE), ("b", inner))))
        self.assertEqual(filled(inner, (argument, inner)), (step, (("x", argument), ("y", DONE), ("z", inner))))
        self.assertEqual(filled(filled(argument, (inner, None)), (DONE, DONE, DONE)),
                         (step, (("a", filled(inner, (DONE, DONE))), ("b", DONE))))

    def test_deep_and_wide(self):
        deep = None
        for number in range(60):
            deep = (("invert", number), (("", deep),))
        whole = filled(deep, (DONE,))
        for number in range(59, -1, -1):
            (step, ((_, whole),)) = whole
            self.assertEqual(step, ("invert", number))
        self.assertEqual(whole, DONE)
        wide = (("invert", 0), 24 * (("a", (("invert", 1), 15 * (("b", None),))),))
        proofs = tuple((("done", number, ()), ()) for number in range(360))
        found = [part for _, (_, parts) in filled(wide, proofs)[1] for _, part in parts]
        self.assertEqual(tuple(found), proofs)


class StepTest(TacticsTest):

    scope = scope_of(NATURALS, (1, (("nat", 0),), ((("nat", 0),),)), (1, (("nat", 0),), ((("=", 0, Z),), (P,))))
    goal = goal_of(("nat", 0), values=(0,))

    def test_one_goal(self):
        left = goal_of(("nat", 0), ("nat", ("s", 0)), values=(0,))
        step = ("rule", "natS", (0,), (0,))
        self.leaves((step, (("", None),)), (left,), self.scope, self.goal, ("step", step))

    def test_none(self):
        self.leaves(DONE, (), self.scope, self.goal, ("step", ("done", 0, ())))

    def test_several(self):
        lefts = (goal_of(("nat", ("s", 0)), ("nat", 0), values=(("s", 0),)), goal_of(("nat", Z), values=(Z,)))
        self.leaves((("invert", 0), (("natS", None), ("natZ", None))), lefts, self.scope, self.goal,
                    ("step", ("invert", 0)))
        lefts = (goal_of(("nat", 0), ("=", 0, Z), values=(0,)), goal_of(("nat", 0), P, values=(0,)))
        step = ("apply", "t1", (0,), (0,))
        self.leaves((step, (("", None), ("", None))), lefts, self.scope, self.goal, ("step", step))

    def test_reasons(self):
        for step, reason in ((("done", 1, ()), "disjunct"), (("done", 0, (0,)), "term"),
                             (("rule", "none", (), ()), "rule"),
                             (("rule", "natS", (1,), (0,)), "term"), (("rule", "natS", (0,), (1,)), "hypothesis"),
                             (("apply", "none", (), ()), "claim"), (("apply", "t1", (), (0,)), "term"),
                             (("apply", "t0", (0,), (0,)), "lower"), (("invert", 1), "hypothesis")):
            self.fails(reason, self.scope, self.goal, ("step", step))
        self.fails("hypothesis", self.scope, goal_of(("nat", Z), values=(0,)), ("step", ("done", 0, ())))

    def test_limits(self):
        goal = goal_of(*30 * (("nat", 0),), values=(0,))
        self.fails("limits", self.scope, goal, ("step", ("rule", "natZ", (), ())))
        self.fails("limits", self.scope, goal, ("step", ("apply", "t1", (0,), (29,))))
        self.fails("limits", self.scope, goal, ("step", ("invert", 3)))
        self.leaves(DONE, (), self.scope, goal, ("step", ("done", 0, ())))


class ThenTest(TacticsTest):

    scope = scope_of(NATURALS, (1, (("nat", 0),), ((("nat", 0),),)))
    goal = goal_of(("nat", 0), values=(0,))
    invert = ("step", ("invert", 0))
    done = ("step", ("done", 0, ()))

    def test_without_parts(self):
        self.leaves(None, (self.goal,), self.scope, self.goal, SKIP)
        self.leaves(None, (self.goal,), self.scope, self.goal, ("then", (SKIP, SKIP, ("then", (SKIP,)))))

    def test_one(self):
        self.leaves(DONE, (), self.scope, self.goal, ("then", (self.done,)))
        self.fails("disjunct", self.scope, self.goal, ("then", (("step", ("done", 1, ())),)))

    def test_on_each_goal(self):
        lefts = (goal_of(("nat", ("s", 0)), ("nat", 0), values=(("s", 0),)), goal_of(("nat", Z), values=(Z,)))
        self.leaves((("invert", 0), (("natS", DONE), ("natZ", DONE))), (), self.scope, self.goal,
                    ("then", (self.invert, self.done)))
        self.leaves((("invert", 0), (("natS", None), ("natZ", None))), lefts, self.scope, self.goal,
                    ("then", (self.invert, SKIP)))
        inner = ("step", ("invert", 1))
        self.fails("hypothesis", self.scope, self.goal, ("then", (self.invert, inner)))

    def test_the_order_of_the_goals(self):
        lefts = (goal_of(("nat", ("s", ("s", 0))), ("nat", ("s", 0)), ("nat", 0), values=(("s", ("s", 0)),)),
                 goal_of(("nat", ("s", Z)), ("nat", Z), values=(("s", Z),)), goal_of(("nat", Z), values=(Z,)))
        tactic = ("then", (self.invert, ("else", (("step", ("invert", 1)), SKIP))))
        argument = (("invert", 0), (("natS", (("invert", 1), (("natS", None), ("natZ", None)))), ("natZ", None)))
        self.leaves(argument, lefts, self.scope, self.goal, tactic)
        argument = (("invert", 0), (("natS", (("invert", 1), (("natS", DONE), ("natZ", DONE)))), ("natZ", DONE)))
        self.leaves(argument, (), self.scope, self.goal, ("then", (tactic, self.done)))

    def test_nothing_is_run_on_no_goals(self):
        self.leaves(DONE, (), self.scope, self.goal, ("then", (self.done, ("step", ("done", 9, ())), ("else", ()))))

    def test_the_first_failure(self):
        """The goals are taken in order, each with all of the other tactics."""
        other = ("step", ("rule", "natS", (0,), (1,)))
        self.fails("disjunct", self.scope, self.goal, ("then", (self.invert, other, ("step", ("done", 7, ())))))
        self.fails("term", self.scope, self.goal, ("then", (self.invert, other)))


class ElseTest(TacticsTest):

    scope = scope_of(NATURALS, (1, (("nat", 0),), ((("nat", 0),),)))
    goal = goal_of(("nat", 0), values=(0,))
    wrong = tuple(("step", step) for step in (("done", 1, ()), ("invert", 1), ("apply", "x", (), ())))

    def test_without_parts(self):
        self.fails("none", self.scope, self.goal, ("else", ()))
        self.fails("none", self.scope, self.goal, ("else", (("else", ()), ("else", (("else", ()),)))))

    def test_the_first_that_does_not_fail(self):
        for before in range(4):
            tactic = ("else", self.wrong[:before] + (("step", ("done", 0, ())), SKIP))
            self.leaves(DONE, (), self.scope, self.goal, tactic)
            self.leaves(None, (self.goal,), self.scope, self.goal, ("else", self.wrong[:before] + (SKIP, DONE)))

    def test_the_reason_of_the_last(self):
        for parts, reason in (((0,), "disjunct"), ((0, 1), "hypothesis"), ((1, 0), "disjunct"), ((0, 1, 2), "claim"),
                              ((2, 2, 0, 1), "hypothesis")):
            self.fails(reason, self.scope, self.goal, ("else", tuple(self.wrong[part] for part in parts)))
        self.fails("none", self.scope, self.goal, ("else", (self.wrong[0], ("else", ()))))

    def test_no_effect_of_what_failed(self):
        broken = ("then", (("step", ("rule", "natZ", (), ())), self.wrong[0]))
        self.leaves(None, (self.goal,), self.scope, self.goal, ("else", (broken, SKIP)))
        self.leaves(DONE, (), self.scope, self.goal, ("else", (broken, broken, ("step", ("done", 0, ())))))


class RepeatTest(TacticsTest):

    scope = scope_of(NATURALS, (1, (("nat", 0),), ((("nat", 0),),)))
    goal = goal_of(("nat", 0), values=(0,))
    zero = ("step", ("rule", "natZ", (), ()))

    def test_ten_runs_one_after_another(self):
        left = goal_of(("nat", 0), *10 * (("nat", Z),), values=(0,))
        argument = None
        for _ in range(10):
            argument = (self.zero[1], (("", argument),))
        self.leaves(argument, (left,), self.scope, self.goal, ("repeat", self.zero))
        self.leaves(None, (self.goal,), self.scope, self.goal, ("repeat", SKIP))

    def test_a_goal_on_which_it_fails(self):
        self.leaves(None, (self.goal,), self.scope, self.goal, ("repeat", ("step", ("invert", 1))))
        self.leaves(None, (self.goal,), self.scope, self.goal, ("repeat", ("else", ())))
        self.leaves(DONE, (), self.scope, self.goal, ("repeat", ("step", ("done", 0, ()))))

    def test_goals_that_split(self):
        """Each goal is finished before the next one: ten runs lead to each of those that are left."""
        chains = {}
        for name in ("natS", "natZ"):
            chains[name] = None
            for _ in range(9):
                chains[name] = (("invert", 0), ((name, chains[name]),))
        argument = (("invert", 0), tuple(chains.items()))
        lefts = (goal_of(("nat", ("s", 0)), *10 * (("nat", 0),), values=(("s", 0),)), goal_of(("nat", Z), values=(Z,)))
        self.leaves(argument, lefts, self.scope, self.goal, ("repeat", ("step", ("invert", 0))))

    def test_goals_of_different_depths(self):
        """Each inversion of the newest hypothesis leaves a goal for natZ on which the next one fails."""
        newest = ("else", tuple(("step", ("invert", place)) for place in (3, 2, 1)))
        tactic = ("then", (("step", ("invert", 0)), ("repeat", newest)))
        argument, lefts = run_tactic(self.scope, "t0", self.goal, tactic)
        self.leaves(*slow_tactic(self.scope, "t0", self.goal, tactic), self.scope, self.goal, tactic)
        self.assertEqual([label for label, _ in argument[1]], ["natS", "natZ"])
        self.assertIsNone(argument[1][1][1])
        self.assertEqual(lefts[-1], goal_of(("nat", Z), values=(Z,)))

    def test_repeats_within_each_other(self):
        inner = ("repeat", ("then", (self.zero, self.zero, self.zero)))
        self.leaves(*slow_tactic(self.scope, "t0", self.goal, ("repeat", inner)), self.scope, self.goal,
                    ("repeat", inner))
        argument, goals = run_tactic(self.scope, "t0", self.goal, ("repeat", inner))
        self.assertEqual((len(goals), len(goals[0][1])), (1, 28))


class WorkTest(TacticsTest):
    """One call has 300 units."""

    scope = scope_of((fact("a"), ("u", (P,), Q), ("v", (Q,), R), ("n", (("n", 0),), ("m", 0))),
                     (0, (), ((("x",),), (R,))), (0, (), ((P,), (Q,), (R,))))
    goal = goal_of(P, Q)

    def burnt(self, units):
        """Tactics that leave the goal as it is; in "then" they use so many units, with those of "then" behind them."""
        found = ()
        for used, tactic in ((112, ("repeat", ("repeat", SKIP))), (12, ("repeat", SKIP)), (2, SKIP)):
            while units >= used and units - used != 1:
                units -= used
                found += (tactic,)
        if units == 3:
            units, found = 0, found + (("else", (SKIP,)),)
        self.assertEqual(units, 0)
        return found

    def uses(self, units, tactic, goal=None, scope=None, left=None):
        """Whether the tactic uses exactly so many units."""
        scope, goal = scope or self.scope, goal or self.goal
        result = run_tactic(scope, "t0", goal, tactic)
        behind = len(result[1])
        self.leaves(*result, scope, goal, ("then", self.burnt(299 - units - behind) + (tactic,)))
        self.fails("work", scope, goal, ("then", self.burnt(300 - units - behind) + (tactic,)))

    def fails_with(self, units, reason, tactic, goal=None, scope=None):
        """Whether the tactic fails for this reason, and has used so many units then."""
        self.fails(reason, scope or self.scope, goal or self.goal, tactic)
        self.uses(units + 3, ("else", (tactic, SKIP)), goal, scope)

    def test_burning(self):
        for units in (2, 3, 4, 5, 11, 12, 13, 14, 15, 112, 113, 115, 250, 299):
            self.leaves(None, (self.goal,), self.scope, self.goal, ("then", self.burnt(units)))
        self.fails("work", self.scope, self.goal, ("then", self.burnt(300)))
        self.fails("work", self.scope, self.goal, ("then", self.burnt(301)))

    def test_steps(self):
        self.uses(1, ("step", ("rule", "a", (), ())))
        self.uses(1, ("step", ("apply", "t1", (), ())))
        self.uses(1, ("step", ("invert", 1)))
        self.fails_with(1, "disjunct", ("step", ("done", 2, ())))

    def test_then(self):
        self.uses(1, SKIP)
        self.uses(3, ("then", (SKIP,)))
        self.uses(5, ("then", (("step", ("rule", "a", (), ())), SKIP)))
        self.uses(5, ("then", (("step", ("apply", "t1", (), ())),)))
        self.uses(8 + 3, ("then", (("step", ("apply", "t1", (), ())), ("step", ("rule", "a", (), ())))))
        self.fails_with(4, "disjunct", ("then", (("step", ("apply", "t1", (), ())), ("step", ("done", 5, ())), SKIP)))

    def test_else(self):
        wrong = ("step", ("done", 5, ()))
        self.fails_with(1, "none", ("else", ()))
        self.uses(2, ("else", (SKIP, SKIP)))
        self.uses(4, ("else", (wrong, SKIP)))
        self.uses(6, ("else", (wrong, wrong, SKIP, SKIP)))
        self.fails_with(2, "disjunct", ("else", (wrong,)))
        self.fails_with(6, "disjunct", ("else", (wrong, wrong, wrong)))

    def test_repeat(self):
        self.uses(11, ("repeat", SKIP))
        self.uses(2, ("repeat", ("step", ("done", 5, ()))))
        self.uses(1 + 10 * 2, ("repeat", ("repeat", ("else", ()))))
        self.uses(1 + 10 * 3, ("repeat", ("then", (SKIP,))))
        self.uses(1 + 1 + 3 + 9, ("repeat", ("step", ("apply", "t1", (), ()))), goal_of(*28 * (P,)))

    def test_auto(self):
        """The first disjunct needs one state; then come the second one, its rules and the hypotheses."""
        self.uses(1 + 1 + 3, ("auto", 1), goal_of(Q))
        self.uses(1 + 1 + 4, ("auto", 2), goal_of(P))
        self.uses(1 + 1 + 2, ("auto", 0), goal_of(P, R, R))
        self.fails_with(1 + 2, "search", ("auto", 0))
        self.fails_with(1 + 1 + 2, "search", ("auto", 1), goal_of(P))

    def test_states_that_are_dropped_use_nothing(self):
        rules = (("big", (("q", ("f", 0, broad(57))),), ("p", 0)), ("small", (), ("p", 0)))
        self.uses(1 + 3, ("auto", 1), goal_of(), scope_of(rules, (0, (), ((("p", A),),))))
        self.uses(1 + 2, ("auto", 1), goal_of(), scope_of(rules, (0, (), ((("p", ("s", A)),),))))

    def test_first_states_that_are_dropped_use_nothing(self):
        scope = scope_of((fact("a"),), (1, (), ((("q", 0, 0),), (P,))))
        self.uses(1 + 3, ("auto", 1), goal_of(values=(broad(29),)), scope)
        self.uses(1 + 2, ("auto", 1), goal_of(values=(broad(30),)), scope)

    def test_apply(self):
        self.uses(1 + 1, ("apply", "a", None, ()), goal_of(Q))
        self.uses(1 + 2, ("apply", "v", None, ()))
        self.uses(1 + 2, ("apply", "v", (1,), ()))
        self.fails_with(1 + 1, "choice", ("apply", "a", None, ()))
        self.fails_with(1 + 1, "choice", ("apply", "v", (0,), ()))
        self.fails_with(1, "name", ("apply", "none", None, ()))
        self.fails_with(1, "variable", ("apply", "v", None, ((0, A),)))
        self.fails_with(1, "premises", ("apply", "v", (), ()))
        goal = goal_of(("n", A), ("n", B), ("m", A), ("n", C))
        self.uses(1 + 3, ("apply", "n", None, ()), goal)
        self.uses(1 + 2, ("apply", "n", (3,), ()), goal)
        self.fails_with(1 + 2, "choice", ("apply", "n", None, ((0, A),)), goal)

    def test_units_are_not_given_back(self):
        wrong = ("then", self.burnt(148) + (("step", ("done", 5, ())),))
        self.leaves(None, (self.goal,), self.scope, self.goal, ("else", (wrong, SKIP)))
        self.fails_with(150, "disjunct", wrong)
        self.fails("work", self.scope, self.goal, ("else", (wrong, wrong, SKIP)))

    def test_whatever_stands_around(self):
        much = ("repeat", ("repeat", ("repeat", SKIP)))
        for tactic in (much, ("else", (much, SKIP)), ("repeat", much), ("repeat", ("else", (much, SKIP))),
                       ("then", (("repeat", much), SKIP)), ("else", (("repeat", ("else", (much,))), ("else", ())))):
            self.fails("work", self.scope, self.goal, tactic)
        self.leaves(None, (self.goal,), self.scope, self.goal, ("else", (SKIP, much)))

    def test_a_long_search(self):
        scope = scope_of((), (0, (), ((("n", 0), ("n", 1), ("m", 0)),)))
        goal = goal_of(*[("n", (name,)) for name in "abcdefghijklmnopqr"])
        self.fails("work", scope, goal, ("auto", 0))
        self.fails("work", scope, goal, ("else", (("repeat", ("auto", 4)), SKIP)))
        self.fails_with(1 + 1 + 16 + 16 * 16, "search", ("auto", 3), goal_of(*[atom for atom, _ in goal[1][:16]]),
                        scope)

    def test_the_depth_of_the_proof(self):
        scope = scope_of((fact("a"),), (0, (), ((P,),)))
        invert, goal = ("step", ("invert", 0)), goal_of(P)
        argument = None
        for _ in range(60):
            argument = (("invert", 0), (("a", argument),))
        sixty = ("then", 6 * (("repeat", invert),))
        self.leaves(argument, (goal,), scope, goal, sixty)
        self.fails("work", scope, goal, ("then", (sixty, invert)))
        self.fails("work", scope, goal, ("then", (sixty, ("auto", 0))))
        self.fails("work", scope, goal, ("else", (("then", (sixty, ("auto", 0))), SKIP)))
        shorter = ("then", 5 * (("repeat", invert),) + 9 * (invert,))
        self.leaves(filled(filled(argument, (None,))[1][0][1], (DONE,)), (), scope, goal,
                    ("then", (shorter, ("auto", 0))))

    def test_the_depth_of_what_failed_does_not_matter(self):
        scope = scope_of((fact("a"),), (0, (), ((P,),)))
        invert, goal = ("step", ("invert", 0)), goal_of(P)
        deep = ("then", 7 * (("repeat", invert),) + (("else", ()),))
        self.leaves(DONE, (), scope, goal, ("else", (deep, ("auto", 0))))


class ApplyTest(TacticsTest):

    def makes(self, step, scope, goal, *tactic, claim="t0"):
        """Whether the tactic apply with these parts makes this step."""
        argument, goals = run_tactic(scope, claim, goal, ("apply",) + tactic)
        self.assertEqual(argument[0], step)
        self.leaves(argument, goals, scope, goal, ("apply",) + tactic, claim)

    two = (("two", (("n", 0), ("n", 1)), ("m", 0, 1)), ("one", (("n", 0),), ("o", 0, 1, 2)), fact("a", ("n", A)))
    scope = scope_of(two, (0, (), ((P,),)))
    goal = goal_of(("n", A), ("x",), ("n", B), ("n", A))

    def test_the_first_choice_of_hypotheses(self):
        goals = [self.goal]
        for terms, numbers in (((A, A), (0, 0)), ((A, B), (0, 2)), ((B, A), (2, 0)), ((B, B), (2, 2))):
            step = ("rule", "two", terms, numbers)
            self.makes(step, self.scope, goals[-1], "two", None, ())
            goals.extend(run_tactic(self.scope, "t0", goals[-1], ("apply", "two", None, ()))[1])
        self.fails("choice", self.scope, goals[-1], ("apply", "two", None, ()))

    def test_given_hypotheses(self):
        for numbers, terms in (((0, 0), (A, A)), ((2, 3), (B, A)), ((3, 2), (A, B)), ((3, 3), (A, A))):
            self.makes(("rule", "two", terms, numbers), self.scope, self.goal, "two", numbers, ())
        self.fails("choice", self.scope, self.goal, ("apply", "two", (0, 1), ()))
        self.makes(("rule", "a", (), ()), self.scope, goal_of(("n", B)), "a", (), ())

    def test_given_terms(self):
        self.makes(("rule", "two", (A, B), (0, 2)), self.scope, self.goal, "two", None, ((1, B),))
        self.makes(("rule", "two", (B, A), (2, 0)), self.scope, self.goal, "two", None, ((0, B),))
        self.makes(("rule", "two", (B, B), (2, 2)), self.scope, self.goal, "two", None, ((1, B), (0, B)))
        self.fails("choice", self.scope, self.goal, ("apply", "two", None, ((0, C),)))
        self.makes(("rule", "one", (A, C, B), (0,)), self.scope, self.goal, "one", None, ((2, B), (1, C)))
        self.makes(("rule", "one", (B, C, A), (2,)), self.scope, self.goal, "one", None, ((2, A), (0, B), (1, C)))

    def test_given_hypotheses_and_terms(self):
        self.makes(("rule", "two", (A, B), (3, 2)), self.scope, self.goal, "two", (3, 2), ((1, B), (0, A)))
        self.fails("choice", self.scope, self.goal, ("apply", "two", (3, 2), ((1, A),)))

    def test_variables_of_the_goal_are_like_names(self):
        goal = goal_of(("n", 0), ("n", 1), ("q", ("s", 1), 0), values=(0, 1))
        rules = (("same", (("n", 0), ("n", 0)), ("m", 0, 0)), ("fix", (("n", A),), Q),
                 ("down", (("q", ("s", 0), 1),), ("o", 0, 1)))
        scope = scope_of(rules, (2, (), ((("m", 0, 1),),)))
        self.makes(("rule", "same", (0,), (0, 0)), scope, goal, "same", None, ())
        self.makes(("rule", "same", (1,), (1, 1)), scope, goal, "same", None, ((0, 1),))
        self.fails("choice", scope, goal, ("apply", "same", (0, 1), ()))
        self.fails("choice", scope, goal, ("apply", "fix", None, ()))
        self.makes(("rule", "down", (1, 0), (2,)), scope, goal, "down", None, ())
        self.fails("choice", scope, goal, ("apply", "down", None, ((0, 0),)))

    def test_own_variables_and_those_of_the_goal_have_nothing_in_common(self):
        rules = (("r", (("n", 1), ("q", 1, 0)), ("m", 0, 1)),)
        goal = goal_of(("q", 0, 1), ("n", 0), ("q", 1, 0), values=(0, 1))
        scope = scope_of(rules, (2, (), ((("m", 0, 1),),)))
        self.makes(("rule", "r", (1, 0), (1, 0)), scope, goal, "r", None, ())
        self.makes(("rule", "r", (1, 0), (1, 0)), scope, goal, "r", None, ((0, 1),))
        self.fails("choice", scope, goal, ("apply", "r", None, ((0, 0),)))

    def test_refl(self):
        goal = goal_of(("=", 0, 0), values=(0, 1))
        scope = scope_of((), (2, (), ((("=", 0, 1),),)))
        self.makes(("rule", "refl", (("s", 1),), ()), scope, goal, "refl", None, ((0, ("s", 1)),))
        self.makes(("rule", "refl", (1,), ()), scope, goal, "refl", (), ((0, 1),))
        self.fails("choice", scope, goal, ("apply", "refl", None, ((0, 0),)))
        self.fails("determined", scope, goal, ("apply", "refl", None, ()))
        self.fails("variable", scope, goal, ("apply", "refl", None, ((1, 0),)))

    def test_a_conclusion_that_is_known(self):
        goal = goal_of(("n", A), ("n", B), ("m", A, A), ("m", A, B))
        self.makes(("rule", "two", (B, A), (1, 0)), self.scope, goal, "two", None, ())
        self.fails("choice", self.scope, goal, ("apply", "two", (0, 1), ()))
        self.fails("choice", self.scope, goal, ("apply", "a", None, ()))

    def block(self, *claims, is_open=False):
        return (self.two, ((is_open, claims), (False, (("free", (2, (("n", 0),), ((("m", 0, 1),),)), ()),))))

    def test_theorems_of_the_own_block(self):
        claim = ("t", (1, (("n", 0), ("k", 0)), ((("l", 0),),)), (0,))
        scope = self.block(claim)
        atoms = (("n", A), ("k", A), ("n", B), ("k", B), ("n", A), ("n", B))
        bounds = ((0, False), (0, True), (1, True), None, None, (0, True))
        goal = goal_of(*atoms, values=(A,), bounds=bounds)
        self.makes(("apply", "t", (B,), (5, 3)), scope, goal, "t", None, (), claim="t")
        self.fails("choice", scope, goal, ("apply", "t", (0, 1), ()), "t")
        self.fails("choice", scope, goal, ("apply", "t", None, ((0, A),)), "t")
        self.fails("choice", scope, goal, ("apply", "t", (2, 3), ()), "t")

    def test_theorems_of_other_blocks_need_not_be_lower(self):
        claim = ("t", (1, (("n", 0),), ((("l", 0),),)), (0,))
        scope = (self.two, ((True, (claim,)), (False, (("other", (0, (), ((P,),)), ()),))))
        goal = goal_of(("n", A), ("n", B), bounds=((0, False), (0, True)))
        self.makes(("apply", "t", (A,), (0,)), scope, goal, "t", None, (), claim="other")
        self.fails("choice", scope, goal_of(("n", A), values=(A,), bounds=((0, False),)), ("apply", "t", None, ()), "t")

    def test_one_induction_premise_behind_the_other(self):
        claim = ("t", (2, (("n", 0), ("n", 1)), ((("l", 0, 1),),)), (1, 0))
        goal = goal_of(("n", A), ("n", B), ("n", C), ("n", Z), values=(A, B),
                       bounds=((1, False), (0, False), (1, True), (0, True)))
        scope = self.block(claim)
        self.makes(("apply", "t", (A, Z), (0, 3)), scope, goal, "t", None, (), claim="t")
        self.makes(("apply", "t", (C, B), (2, 1)), scope, goal, "t", None, ((0, C),), claim="t")
        self.makes(("apply", "t", (C, B), (2, 1)), scope, goal, "t", None, ((1, B),), claim="t")
        self.fails("choice", scope, goal, ("apply", "t", None, ((0, A), (1, B))), "t")

    def test_theorems_without_induction_premises_in_their_own_block(self):
        scope = self.block(("t", (1, (("n", 0),), ((("l", 0),),)), ()))
        self.fails("choice", scope, goal_of(("n", A), values=(A,)), ("apply", "t", None, ()), "t")

    def theorem(self, *disjuncts):
        return (self.two, ((False, (("t", (1, (("n", 0),), disjuncts), ()),)), (False, (("x", (0, (), ((P,),)), ()),))))

    def test_a_disjunct_that_is_known(self):
        known = goal_of(("n", A), ("n", B), ("l", A), ("k", A), ("l", B))
        one, both, other = (("l", 0),), (("l", 0), ("k", 0)), (("l", 0), ("k", 1))
        self.fails("choice", self.theorem(one), known, ("apply", "t", None, ()), "x")
        self.makes(("apply", "t", (B,), (1,)), self.theorem(both), known, "t", None, (), claim="x")
        self.fails("choice", self.theorem(both), known, ("apply", "t", (0,), ()), "x")
        self.makes(("apply", "t", (A,), (0,)), self.theorem(other), known, "t", None, (), claim="x")
        self.makes(("apply", "t", (A,), (0,)), self.theorem(one, one), known, "t", None, (), claim="x")
        self.makes(("apply", "t", (A,), (0,)), self.theorem(), known, "t", None, (), claim="x")

    def test_variables_that_no_premise_determines(self):
        scope = self.block(("t", (0, (), ((P,),)), ()))
        goal = goal_of(("n", A))
        self.fails("determined", scope, goal, ("apply", "free", None, ()), "t")
        self.fails("determined", scope, goal, ("apply", "free", None, ((0, A),)), "t")
        self.makes(("apply", "free", (A, TWO), (0,)), scope, goal, "free", None, ((1, TWO),), claim="t")
        self.fails("determined", scope, goal, ("apply", "one", None, ((1, A), (0, A))), "t")

    def test_given_terms_that_are_not_admissible(self):
        goal = goal_of(("n", 0), ("o", 0, Z, Z), values=(0,))
        scope = scope_of(self.two, (1, (), ((("n", 0),),)))
        for term in (1, ("s", 1), broad(61), broad(1000), nested(12, 0)):
            self.fails("term", scope, goal, ("apply", "one", None, ((1, term), (2, Z))))
        for term in (0, ("s", 0), broad(57), nested(10, 0)):
            self.makes(("rule", "one", (0, term, Z), (0,)), scope, goal, "one", None, ((1, term), (2, Z)))
        for term in (broad(60), nested(11, 0)):
            self.fails("limits", scope, goal, ("apply", "one", None, ((1, term), (2, Z))))

    def test_the_first_reason(self):
        goal = goal_of(("n", 0), values=(0,))
        scope = scope_of(self.two, (1, (), ((("n", 0),),)))
        bad = ((9, 7), (0, 7), (1, 0))
        self.fails("name", scope, goal, ("apply", "none", (5, 5, 5), bad))
        self.fails("variable", scope, goal, ("apply", "one", (5, 5, 5), bad))
        self.fails("term", scope, goal, ("apply", "one", (5, 5, 5), bad[1:]))
        self.fails("term", scope, goal, ("apply", "one", (5, 5, 5), bad[:0:-1]))
        self.fails("term", scope, goal, ("apply", "one", (5, 5, 5), bad[1:] + bad[:1]))
        self.fails("determined", scope, goal, ("apply", "one", (5, 5, 5), ((1, 0),)))
        given = ((1, 0), (2, 0))
        self.fails("premises", scope, goal, ("apply", "one", (5, 5, 5), given))
        self.fails("premises", scope, goal, ("apply", "one", (), given))
        self.fails("hypothesis", scope, goal, ("apply", "one", (1,), given))
        self.fails("hypothesis", scope, goal, ("apply", "one", (999,), given + ((0, Z),)))
        self.fails("choice", scope, goal, ("apply", "one", (0,), given + ((0, Z),)))
        full = goal_of(*30 * (("n", 0),), values=(0,))
        self.fails("limits", scope, full, ("apply", "one", (29,), given))
        self.fails("choice", scope, full, ("apply", "one", None, given + ((0, Z),)))

    def test_limits_only_for_the_first_useful_choice(self):
        """A choice whose goal is too large is not passed over."""
        rules = (("r", (("n", 0),), ("m", 0, 0, 0)),)
        scope = scope_of(rules, (0, (), ((P,),)))
        self.fails("limits", scope, goal_of(("n", broad(20)), ("n", A)), ("apply", "r", None, ()))
        self.makes(("rule", "r", (broad(19),), (0,)), scope, goal_of(("n", broad(19)), ("n", A)), "r", None, ())

    def test_premises_that_would_be_too_large(self):
        rules = (("r", (("n", 0), ("m", 0, 0, 0)), ("k", 0)),)
        scope = scope_of(rules, (0, (), ((P,),)))
        large = broad(30)
        self.makes(("rule", "r", (A,), (1, 2)), scope, goal_of(("n", large), ("n", A), ("m", A, A, A)), "r", None, ())
        self.fails("choice", scope, goal_of(("n", large)), ("apply", "r", None, ()))
        self.fails("choice", scope, goal_of(("n", large)), ("apply", "r", None, ((0, large),)))

    def test_theorems_leave_a_goal_for_each_disjunct(self):
        statement = (1, (("n", 0),), ((("l", 0, 1),), (("k", 0), P)))
        scope = scope_of((), (1, (("n", 0),), ((P,),)), statement)
        goal = goal_of(("n", 0), values=(0,))
        self.leaves((("apply", "t1", (0,), (0,)), (("", None), ("", None))),
                    (goal_of(("n", 0), ("l", 0, 1), values=(0,)), goal_of(("n", 0), ("k", 0), P, values=(0,))),
                    scope, goal, ("apply", "t1", None, ()))


class AutoTest(TacticsTest):

    def makes(self, steps, rules, goal, most, *disjuncts, universals=0):
        """Whether auto makes these steps, the last of which is done."""
        scope = scope_of(rules, (universals, (), disjuncts))
        self.leaves(chain(*steps), (), scope, goal, ("auto", most))

    def misses(self, reason, rules, goal, most, *disjuncts, universals=0):
        self.fails(reason, scope_of(rules, (universals, (), disjuncts)), goal, ("auto", most))

    def test_how_many_rules_one_above_another(self):
        rules = tuple((f"r{place}", ((f"p{place}",),), (f"p{place + 1}",)) for place in range(5))
        for start in range(6):
            for most in range(5):
                steps = [("rule", f"r{place}", (), (place - start,)) for place in range(start, 5)] + [("done", 0, ())]
                if 5 - start <= most:
                    self.makes(steps, rules, goal_of((f"p{start}",)), most, (("p5",),))
                else:
                    self.misses("search", rules, goal_of((f"p{start}",)), most, (("p5",),))

    def test_rules_beside_each_other(self):
        rules = (("two", (P, Q), R), fact("p"), ("q", (P, P), Q))
        steps = [("rule", "p", (), ()), ("rule", "q", (), (0, 0)), ("rule", "two", (), (0, 1)), ("done", 0, ())]
        self.makes(steps, rules, goal_of(), 3, (R, R, R))
        self.misses("search", rules, goal_of(), 2, (R,))
        steps = [("rule", "p", (), ()), ("rule", "two", (), (1, 0)), ("done", 0, ())]
        self.makes(steps, rules, goal_of(Q), 2, (R, Q))
        self.misses("search", rules, goal_of(Q), 1, (R, Q))

    def test_hypotheses_before_rules(self):
        self.makes([("done", 0, ())], (fact("a"),), goal_of(P), 4, (P,))
        self.makes([("done", 0, (B,))], (fact("a", ("n", A)),), goal_of(("n", B), ("n", C)), 4, (("n", 0),))

    def test_the_first_hypothesis(self):
        goal = goal_of(("n", C), ("n", B), ("m", B), ("n", A), ("m", A))
        self.makes([("done", 0, (B,))], (), goal, 0, (("n", 0), ("m", 0)))
        self.makes([("done", 0, (B,))], (), goal, 0, (("m", 0), ("n", 0)))
        self.makes([("done", 0, (B, C))], (), goal, 2, (("m", 0), ("n", 1)))

    def test_rules_by_name(self):
        rules = (fact("b", ("n", B)), fact("aB", ("n", A)), fact("ab", ("n", C)), fact("c", ("n", Z)))
        for count, (name, term) in enumerate((("aB", A), ("ab", C), ("b", B), ("c", Z))):
            left = tuple(rule for rule in rules if rule[0] >= name)
            self.makes([("rule", name, (), ()), ("done", 0, (term,))], left, goal_of(), 1, (("n", 0),))
            self.assertEqual(len(left), 4 - count)

    def test_refl_stands_among_the_rules_by_name(self):
        self.makes([("rule", "refl", (A,), ()), ("done", 0, (A,))], (), goal_of(), 1, (("=", 0, A),))
        self.makes([("rule", "refl", (ANY,), ()), ("done", 0, (ANY, ANY))], (), goal_of(), 1, (("=", 0, 1),))
        self.makes([("done", 0, (B,))], (), goal_of(("=", B, A)), 1, (("=", 0, A),))
        self.misses("search", (), goal_of(), 0, (("=", A, A),))
        self.misses("search", (), goal_of(), 4, (("=", A, B),))

    def test_going_back(self):
        rules = (("a", (("k", 0),), ("n", 0)), ("b", (("l", 0),), ("n", 0)), ("c", (("n", 0), ("o", 0)), ("m", 0)))
        goal = goal_of(("k", A), ("l", B), ("o", B))
        self.makes([("rule", "b", (B,), (1,)), ("rule", "c", (B,), (3, 2)), ("done", 0, (B,))], rules, goal, 2,
                   (("m", 0),))
        self.misses("search", rules, goal_of(("k", A), ("l", B), ("o", C)), 4, (("m", 0),))

    def test_each_state_with_all_that_follow_it(self):
        """The first hypothesis is tried with all rules before the second one."""
        rules = (("r", (("k", 0),), ("m", 0)), ("s", (("m", 0),), ("o", 0)))
        goal = goal_of(("n", A), ("n", B), ("o", B), ("k", A))
        steps = [("rule", "r", (A,), (3,)), ("rule", "s", (A,), (4,)), ("done", 0, (A,))]
        self.makes(steps, rules, goal, 2, (("n", 0), ("o", 0)))
        self.makes([("done", 0, (B,))], rules, goal, 1, (("n", 0), ("o", 0)))
        self.makes([("done", 0, (B,))], rules, goal, 4, (("o", 0), ("n", 0)))

    def test_disjuncts_in_order(self):
        rules = (fact("a"), ("b", (P,), Q))
        self.makes([("rule", "a", (), ()), ("rule", "b", (), (1,)), ("done", 1, ())], rules, goal_of(R), 2, (("x",),),
                   (Q,), (R,))
        self.makes([("done", 2, ())], rules, goal_of(R), 1, (("x",),), (Q,), (R,))
        self.makes([("done", 1, ())], rules, goal_of(R), 1, (Q,), (R,))

    def test_no_disjuncts(self):
        self.misses("search", (fact("a"),), goal_of(P), 4)

    def test_variables_of_the_goal_are_like_names(self):
        rules = (fact("a", ("n", Z)), fact("b", ("m", 0, 0)), fact("c", ("o", ("s", 0))))
        values = (0, 1)
        self.misses("search", rules, goal_of(values=values), 1, (("n", 0),), universals=2)
        self.misses("search", rules, goal_of(values=values), 1, (("m", 0, 1),), universals=2)
        self.misses("search", rules, goal_of(values=values), 1, (("o", 1),), universals=2)
        self.misses("search", rules, goal_of(("n", 0), values=values), 1, (("n", 1),), universals=2)
        self.makes([("rule", "b", (1,), ()), ("done", 0, ())], rules, goal_of(values=values), 1, (("m", 1, 1),),
                   universals=2)
        self.makes([("rule", "c", (1,), ()), ("done", 0, ())], rules, goal_of(values=(0, ("s", 1))), 1, (("o", 1),),
                   universals=2)

    def test_search_variables_whatever_their_integers_are(self):
        rules = (("r", (("n", 1, 0), ("n", 2, 1)), ("m", 0, 2)),)
        goal = goal_of(("n", 1, 0), ("n", 0, 1), ("n", 2, 2), values=(0, 1, 2))
        self.makes([("rule", "r", (0, 1, 0), (0, 1)), ("done", 0, (0,))], rules, goal, 1, (("m", 0, 3),), universals=3)
        self.makes([("rule", "r", (2, 2, 2), (2, 2)), ("done", 0, (2,))], rules, goal, 1, (("m", 2, 3),), universals=3)
        self.makes([("done", 0, (1, 0))], rules, goal, 0, (("n", 3, 4),), universals=3)

    def test_values_replace_the_universal_variables(self):
        rules = (("r", (("n", 0),), ("m", ("s", 0))),)
        goal = goal_of(("n", ("f", 0)), values=(("s", ("f", 0)),))
        self.makes([("rule", "r", (("f", 0),), (0,)), ("done", 0, ())], rules, goal, 1, (("m", 0),), universals=1)
        self.misses("search", rules, goal, 1, (("m", ("s", 0)),), universals=1)

    def test_search_variables_that_are_left(self):
        rules = (fact("a", ("n", 0, ("s", 1))), ("b", (("n", 1, 0),), ("m", 0)))
        self.makes([("rule", "a", (ANY, ANY), ()), ("done", 0, (ANY, ("s", ANY)))], rules, goal_of(), 1, (("n", 0, 1),))
        self.makes([("rule", "a", (ANY, ANY), ()), ("rule", "b", (("s", ANY), ANY), (0,)), ("done", 0, (("s", ANY),))],
                   rules, goal_of(), 2, (("m", 0),))
        self.makes([("rule", "a", (ANY, A), ()), ("rule", "b", (("s", A), ANY), (0,)), ("done", 0, ())],
                   rules, goal_of(), 2, (("m", ("s", A)),))

    def test_the_rule_that_was_used_last_is_made_first(self):
        rules = (("top", (Q, R), P), fact("q", Q), fact("r", R), ("x", (P, Q), ("x",)))
        steps = [("rule", "r", (), ()), ("rule", "q", (), ()), ("rule", "top", (), (1, 0)), ("done", 0, ())]
        self.makes(steps, rules, goal_of(), 2, (P,))
        steps = [("rule", "q", (), ()), ("rule", "r", (), ()), ("rule", "top", (), (0, 1)), ("rule", "x", (), (2, 0)),
                 ("done", 0, ())]
        self.makes(steps, rules, goal_of(), 3, (("x",),))

    def test_steps_that_are_left_out(self):
        rules = (fact("a"), ("b", (P,), Q), ("c", (Q, P), R))
        self.makes([("rule", "a", (), ()), ("done", 0, ())], rules, goal_of(), 1, (P, P, P))
        self.makes([("rule", "a", (), ()), ("rule", "b", (), (0,)), ("rule", "c", (), (1, 0)), ("done", 0, ())],
                   rules, goal_of(), 3, (R, Q, P))

    def test_a_conclusion_that_becomes_a_hypothesis(self):
        """The rule is used with a search variable, which is replaced later by the name of a hypothesis."""
        rules = (fact("a", ("n", 0)), ("b", (("n", 0), ("k", 0)), ("m", 0)))
        goal = goal_of(("n", B), ("k", A))
        self.makes([("rule", "a", (A,), ()), ("rule", "b", (A,), (2, 1)), ("done", 0, (A,))], rules, goal, 2,
                   (("m", 0),))

    def test_the_first_hypothesis_with_an_atom(self):
        rules = (("r", (P, Q, P), R),)
        goal = goal_of(("x",), P, P, Q, P, Q)
        self.makes([("rule", "r", (), (1, 3, 1)), ("done", 0, ())], rules, goal, 1, (R,))

    def test_existential_variables_of_the_disjunct(self):
        goal = goal_of(("n", 0), ("m", ("s", 0), A), values=(0,))
        self.makes([("done", 1, (("s", 0), A, 0))], (), goal, 0, (("k", 1),), (("m", 1, 2), ("n", 3)), universals=1)

    def test_sizes_of_atoms_that_remain(self):
        rules = (("r", (("q", 0, 0),), ("p", 0)), ("s", (), ("q", 0, 1)))
        for size, fits in ((28, True), (29, True), (30, False), (58, False)):
            atom = (("p", broad(size)),)
            if fits:
                self.makes([("rule", "s", (broad(size), broad(size)), ()), ("rule", "r", (broad(size),), (0,)),
                            ("done", 0, ())],
                           rules, goal_of(), 2, atom)
            else:
                self.misses("search", rules, goal_of(), 2, atom)

    def test_depths_of_atoms_that_remain(self):
        rules = (("r", (("q", ("f", 0)),), ("p", 0)), ("s", (), ("q", 0)))
        for depth, fits in ((10, True), (11, False)):
            term = nested(depth - 1, Z)
            if fits:
                self.makes([("rule", "s", (("f", term),), ()), ("rule", "r", (term,), (0,)), ("done", 0, ())],
                           rules, goal_of(), 2, (("p", term),))
            else:
                self.misses("search", rules, goal_of(), 2, (("p", term),))

    def test_sizes_of_conclusions_that_were_used(self):
        """The term of the rule is determined by a hypothesis later, when its conclusion does not remain any more."""
        rules = (("r", (("q", 0),), ("p", 0, 0)),)
        for size, fits in ((29, True), (30, False), (59, False)):
            goal, term = goal_of(("q", broad(size))), broad(size)
            if fits:
                self.makes([("rule", "r", (term,), (0,)), ("done", 0, (term,))], rules, goal, 1, (("p", 0, 0),))
                self.makes([("rule", "r", (term,), (0,)), ("done", 0, (term, term))], rules, goal, 1, (("p", 0, 1),))
            else:
                self.misses("search", rules, goal, 1, (("p", 0, 0),))
                self.misses("search", rules, goal, 1, (("p", 0, 1),))

    def test_depths_of_conclusions_that_were_used(self):
        rules = (("r", (("q", 0),), ("p", ("f", 0))),)
        for depth, fits in ((10, True), (11, False)):
            term = nested(depth - 1, Z)
            if fits:
                self.makes([("rule", "r", (term,), (0,)), ("done", 0, (("f", term),))], rules, goal_of(("q", term)),
                           1, (("p", 0),))
            else:
                self.misses("search", rules, goal_of(("q", term)), 1, (("p", 0),))

    def test_a_state_that_is_dropped_is_not_the_end(self):
        rules = (("r", (("q", 0),), ("p", 0, 0)),)
        goal = goal_of(("q", broad(30)), ("q", A))
        self.makes([("rule", "r", (A,), (1,)), ("done", 0, (A,))], rules, goal, 1, (("p", 0, 0),))

    def test_first_states_that_are_dropped(self):
        values = (broad(30),)
        self.makes([("rule", "a", (), ()), ("done", 1, ())], (fact("a"), fact("q", ("q", 0, 1))),
                   goal_of(values=values), 1,
                   (("q", 0, 0),), (P,), universals=1)
        self.misses("search", (fact("q", ("q", 0, 1)),), goal_of(values=values), 1, (("q", 0, 0),), universals=1)
        self.misses("search", (fact("q", ("q", 0)),), goal_of(values=(nested(11, Z),)), 1, (("q", ("s", 0)),),
                    universals=1)

    def test_millions_of_names(self):
        left, right = doubling_case()
        rules = (("big", (), right), ("small", (), ("q", 0)))
        self.misses("search", rules, goal_of(), 4, (left,))
        self.makes([("rule", "small", (ANY,), ()), ("done", 1, (ANY,))], rules, goal_of(), 4, (left,), (("q", 0),))
        self.makes([("rule", "small", (ANY,), ()), ("done", 1, (ANY,))], rules, goal_of(), 4, (("q", 0), left),
                   (("q", 0),))

    def test_millions_of_names_in_what_remains(self):
        """The atom remains while a rule doubles its variable again and again."""
        rules = tuple((f"d{place}", ((f"p{place + 1}", ("g", 0, 0)),), (f"p{place}", 0)) for place in range(8))
        self.misses("search", rules, goal_of(), 4, (("p0", ("g", A, A)),))
        apart = tuple((f"t{place}", (), (f"p{place}", ("g", 0, 0), 0)) for place in range(8))
        atoms = tuple((f"p{place}", place, place + 1) for place in range(4))
        trees = [ANY]
        for _ in range(4):
            trees.append(("g", trees[-1], trees[-1]))
        self.makes([("rule", f"t{place}", (trees[3 - place],), ()) for place in range(3, -1, -1)]
                   + [("done", 0, tuple(trees[::-1]))], apart, goal_of(), 1, atoms)
        self.misses("search", apart, goal_of(), 1, atoms[:3] + (("p3", 3, 3),))

    def test_limits(self):
        full = goal_of(*30 * (("q",),))
        self.misses("limits", (fact("a"),), full, 1, (P,))
        self.makes([("done", 0, ())], (fact("a"),), full, 1, (Q,))
        self.makes([("rule", "a", (), ()), ("done", 0, ())], (fact("a"),), goal_of(*29 * (("q",),)), 1, (P,))
        self.misses("limits", (fact("a"), ("b", (P,), R)), goal_of(*29 * (("q",),)), 2, (R,))

    def test_limits_do_not_lead_to_another_search(self):
        large = goal_of(*6 * (("q", broad(59)),), ("n", broad(19)), ("n", A), ("o", A))
        rules = (("r", (("n", 0),), ("m", 0)),)
        self.misses("limits", rules, large, 1, (("m", 0),))
        self.makes([("rule", "r", (A,), (7,)), ("done", 0, (A,))], rules, large, 1, (("m", 0), ("o", 0)))

    def test_work(self):
        self.misses("work", (), goal_of(*20 * (P,)), 0, (P, P, Q))
        self.misses("search", (), goal_of(*16 * (P,)), 0, (P, P, Q))


class RandomTest(TacticsTest):
    """Many tactics on many goals, against the slow version."""

    functions = {"z": 0, "s": 1, "c": 2}
    relations = {"p": 1, "q": 2, "r": 0, "=": 2}

    def term(self, depth, variables):
        if depth == 0 or self.choose.random() < 0.5:
            return self.choose.choice(variables) if variables and self.choose.random() < 0.7 else Z
        name = self.choose.choice("zssc")
        return (name,) + tuple(self.term(depth - 1, variables) for _ in range(self.functions[name]))

    def atom(self, names, depth, variables):
        name = self.choose.choice(names)
        return (name,) + tuple(self.term(depth, variables) for _ in range(self.relations[name]))

    def scope(self):
        rules, blocks = [], []
        for place in range(self.choose.randrange(1, 6)):
            premises = tuple(self.atom("ppqqr=", 1, (0, 1, 2)) for _ in range(self.choose.choice((0, 0, 1, 1, 2))))
            rules.append(numbered_rule((f"r{place}", premises, self.atom("ppqqr", 2, (0, 1, 2)))))
        while len(blocks) < 3:
            premises = tuple(self.atom("ppqqr=", 1, (0, 1)) for _ in range(self.choose.choice((1, 1, 2))))
            disjuncts = tuple((((7, 8), tuple(self.atom("pqr=", 1,
                                                        (0, 1, 7, 8)) for _ in range(self.choose.choice((1, 2))))))
                              for _ in range(self.choose.choice((0, 1, 1, 2))))
            statement = numbered_statement(premises, disjuncts)
            if is_valid_statement(statement):
                blocks.append((False, ((f"t{len(blocks)}", statement, (0,)[:self.choose.randrange(2)]),)))
        return tuple(rules), tuple(blocks)

    def tactic(self, depth, names):
        kind = self.choose.choice(("invert", "apply", "apply", "auto", "auto") + depth * ("then", "else", "else",
                                                                                          "repeat"))
        if kind == "invert":
            return ("step", ("invert", self.choose.randrange(4)))
        if kind == "auto":
            return ("auto", self.choose.randrange(4))
        if kind == "apply":
            terms = tuple((variable, self.term(1, (0, 1))) for variable in range(3) if self.choose.random() < 0.2)
            return ("apply", self.choose.choice(names), self.choose.choice((None, None, None, (), (0,), (1, 0))), terms)
        if kind == "repeat":
            return ("repeat", self.tactic(depth - 1, names))
        return (kind, tuple(self.tactic(depth - 1, names) for _ in range(self.choose.choice((0, 1, 2, 2, 3)))))

    def test_all(self):
        self.choose = random.Random(240)
        reasons = {}
        for _ in range(1200):
            rules, blocks = scope = self.scope()
            names = [rule[0] for rule in rules] + [claim[0] for _, claims in blocks for claim in claims] * 2 + ["refl"]
            claim = self.choose.choice(blocks)[1][0]
            goal = initial_goal(claim)
            tactic = self.tactic(3, names)
            expected = slow_tactic(scope, claim[0], goal, tactic)
            if isinstance(expected, str):
                self.fails(expected, scope, goal, tactic, claim[0])
                reasons[expected] = True
            else:
                self.leaves(*expected, scope, goal, tactic, claim[0])
                reasons[len(expected[1])] = True
        self.assertGreater(len(reasons), 9)


if __name__ == "__main__":
    unittest.main()
