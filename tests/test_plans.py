"""Plans [225] to [228]: the programs of proofs, and the sources of terms."""

import itertools
import unittest

from openrules.derivations import fact_of
from openrules.errors import TooLarge, UnknownClaim
from openrules.goals import atoms_of_goal, initial_goal, inversion, replacements
from openrules.machine import run_plan
from openrules.modules import members_of, scope_of
from openrules.plans import plan_of
from openrules.rules import REFL, atoms_of_rule
from openrules.systems import link
from openrules.terms import instance_of
from samples import ADD_S, ADD_Z, NAT_Z, NATURALS, ONE, RIGHT, Z, arithmetic, chain, nested, number

P, Q = ("p",), ("q",)


def plan_for(statement, argument, rules=NATURALS):
    """The program of a proof of a theorem that is not open."""
    return dict(plan_of((rules, ((False, (("t", statement, ()),)),)), (("t", None, argument),)))["t"]


class ExamplesTest(unittest.TestCase):

    expected = (("addZero", ("switch", 0, (
        ("natS", (("goal", 0, (1,)),), ("call", "addZero", (0,), (1,), (
            ("rule", "addS", (0, Z, 0), (2,), ("done", 0, (), (3,))),))),
        ("natZ", (), ("rule", "addZ", (Z,), (), ("done", 0, (), (1,))))))),)

    def test_the_plan_of_arithmetic(self):
        self.assertEqual(link(arithmetic()[:1]).make_plan(), self.expected)

    def test_running_it(self):
        plan = link(arithmetic()[:1]).make_plan()
        self.assertEqual(run_plan(plan, "addZero", (ONE,), (number(1),)),
                         (0, (), (("addS", (Z, Z, Z), (("addZ", (Z,), ()),)),)))

    def test_any_order_of_the_scope_and_the_entries(self):
        parts = [parts for parts, _ in members_of(arithmetic())]
        entries = tuple(entry for told in parts for entry in told[4])
        rules = tuple(rule for told in parts for rule in told[2])
        expected = link(arithmetic()).make_plan()
        for order in itertools.permutations(entries):
            self.assertEqual(plan_of((rules, ((True, (RIGHT,)),)), order), expected)
            self.assertEqual(plan_of((rules[::-1], ((True, (RIGHT,)),)), order), expected)

    def test_nothing(self):
        self.assertEqual(plan_of(((), ()), ()), ())
        self.assertEqual(plan_of((NATURALS, ()), ()), ())

    def test_unknown_claims(self):
        for plan, name in ((self.expected, "addzero"), (self.expected, "natS"), ((), "addZero")):
            with self.assertRaises(UnknownClaim) as caught:
                run_plan(plan, name, (Z,), (number(3),))
            self.assertEqual(vars(caught.exception), {"name": name})


class ProgramTest(unittest.TestCase):

    def test_done(self):
        statement = (1, (("nat", 0), ("nat", 0), P, ("nat", Z)), ((P,), (("nat", 1), P, ("nat", 0), ("nat", 1))))
        self.assertEqual(plan_for(statement, (("done", 0, ()), ())), ("done", 0, (), (2,)))
        self.assertEqual(plan_for(statement, (("done", 1, (0,)), ())), ("done", 1, (0,), (0, 2, 0, 0)))
        self.assertEqual(plan_for(statement, (("done", 1, (Z,)), ())), ("done", 1, (Z,), (3, 2, 0, 3)))

    def test_rule(self):
        statement = (1, (("nat", 0),), ((("nat", ("s", ("s", 0))),),))
        argument = chain(("rule", "natS", (0,), (0,)), ("rule", "refl", (Z,), ()), ("rule", "natS", (("s", 0),), (1,)),
                         ("done", 0, ()))
        self.assertEqual(plan_for(statement, argument), (
            "rule", "natS", (0,), (0,), ("rule", "refl", (Z,), (), ("rule", "natS", (("s", 0),), (1,),
                                                                    ("done", 0, (), (3,))))))

    def test_call(self):
        statement = (1, (("nat", 0), P), ((("nat", 0),),))
        two = ("two", (1, (P, ("nat", 0)), ((P,), (("nat", 0), ("nat", 0)))), ())
        none = ("none", (0, (P,), ()), ())
        argument = (("apply", "two", (0,), (1, 0)), (
            ("", (("done", 0, ()), ())), ("", (("apply", "none", (), (1,)), ()))))
        scope = (NATURALS, ((False, (("t", statement, ()),)), (False, (two,)), (False, (none,))))
        entries = (("two", None, (("done", 0, ()), ())), ("t", None, argument), ("none", None, (("invert", 0), ())))
        self.assertEqual(plan_of(scope, entries), (
            ("none", ("switch", 0, ())),
            ("t", ("call", "two", (0,), (1, 0), (("done", 0, (), (0,)), ("call", "none", (), (1,), ())))),
            ("two", ("done", 0, (), (0,)))))

    def test_switch(self):
        statement = (2, (("nat", 0), ("add", 1, 0, 0)), ((("nat", 0),),))
        argument = (("invert", 1), (("addS", (("done", 0, ()), ())), ("addZ", (("done", 0, ()), ()))))
        self.assertEqual(plan_for(statement, argument), ("switch", 1, (
            ("addS", (("goal", 0, (1,)), ("goal", 1, (1,))), ("done", 0, (), (0,))),
            ("addZ", (("goal", 0, ()),), ("done", 0, (), (0,))))))

    def test_open_theorems_have_a_case_for_each_rule_by_name(self):
        claim = ("c", (2, (P, ("p", 0), ("p", 1)), ((P,),)), (2, 1))
        rules = (("b", (), ("p", 0)), ("aB", (("p", 1),), ("p", ("s", 0))), ("none", (), ("q", 0)),
                 ("ab", (), ("p", Z)))
        entries = tuple(("c", name, (("done", 0, ()), ())) for name in ("ab", "b", "aB"))
        done = ("done", 0, (), (0,))
        self.assertEqual(plan_of((rules, ((True, (claim,)),)), entries), (("c", ("switch", 2, (
            ("aB", (("goal", 0, ()), ("goal", 1, (1,)), ("rule", 1, ())), done),
            ("ab", (("goal", 0, ()),), done),
            ("b", (("goal", 0, ()), ("goal", 1, ())), done)))),))

    def test_a_case_for_refl(self):
        claim = ("c", (2, (("=", 0, ("s", 1)),), ((("=", 0, ("s", 1)),),)), (0,))
        self.assertEqual(plan_of(((NAT_Z,), ((True, (claim,)),)), (("c", "refl", (("done", 0, ()), ())),)), (
            ("c", ("switch", 0, (("refl", (("goal", 0, (1,)),), ("done", 0, (), (0,))),))),))

    def test_theorems_by_name(self):
        blocks = tuple((False, ((name, (0, (P,), ((P,),)), ()), (name + "A", (0, (P,), ((P,),)), ())))
                       for name in ("b", "a", "aB"))
        entries = tuple((claim[0], None, (("done", 0, ()), ())) for _, claims in blocks for claim in claims)
        self.assertEqual([name for name, _ in plan_of(((), blocks), entries)], ["a", "aA", "aB", "aBA", "b", "bA"])

    def test_variables_of_a_program_behind_a_call(self):
        """The variables of a program are those of the goal, also after new ones have come by a disjunct."""
        some = ("some", (1, (("nat", 0),), ((("add", 1, 2, 0), ("nat", 2)),)), ())
        statement = (2, (("nat", 0), ("nat", 1)), ((("add", 2, 3, 1),),))
        argument = chain(("apply", "some", (0,), (0,)), ("apply", "some", (1,), (1,)), ("done", 0, (4, 5)))
        scope = ((), ((False, (("t", statement, ()),)), (False, (some,))))
        plan = dict(plan_of(scope, (("t", None, argument), ("some", None, (("invert", 0), ())))))
        self.assertEqual(plan["t"], ("call", "some", (0,), (0,), (
            ("call", "some", (1,), (1,), (("done", 0, (4, 5), (4,)),)),)))


class SourcesTest(unittest.TestCase):

    def sources(self, expected, statement, hypothesis, rule):
        """The sources of the goal to which inverting a premise by this rule leads."""
        scope = ((rule,) if rule != REFL else (), ((False, (("t", statement, ()),)),))
        goal = initial_goal(("t", statement, ()))
        self.agree(goal, hypothesis, rule)
        argument = (("invert", hypothesis), ((rule[0], (("done", 0, ()), ())),))
        plan = plan_of(scope, (("t", None, argument),))
        self.assertEqual(plan[0][1][2][0][1], expected)

    def agree(self, goal, hypothesis, rule):
        """What replaces the variables makes the new goal out of the old one."""
        of_goal, of_rule = replacements(goal, hypothesis, rule)
        old = dict(enumerate(of_goal))
        values, hypotheses = inversion(goal, hypothesis, rule)
        self.assertEqual(values, tuple(instance_of(value, old) for value in goal[0]))
        atoms = [instance_of(atom, old) for atom in atoms_of_goal(goal)]
        inner = [instance_of(atom, dict(enumerate(of_rule))) for atom in atoms_of_rule(rule)]
        self.assertEqual([atom for atom, _ in hypotheses], atoms + inner[1:])
        self.assertEqual(atoms[hypothesis], inner[0])

    def test_the_example(self):
        statement = (2, (("add", 0, 1, 1), ("nat", 1)), ((("nat", 1),),))
        self.sources((("goal", 0, (1,)), ("goal", 1, (1,))), statement, 0, ADD_S)
        self.sources((("goal", 1, ()),), statement, 0, ADD_Z)

    def test_variables_of_the_rule(self):
        rule = ("r", (("q", 2, 1), ("q", 3, 0)), ("p", ("f", 0, 1)))
        self.sources((("goal", 0, (1,)), ("goal", 0, (2,)), ("rule", 2, ()), ("rule", 3, ())),
                     (1, (("p", 0),), ((("p", 0),),)), 0, rule)
        rule = ("r", (("q", 1, 0), ("q", 2, 2)), ("p", ("f", 0)))
        self.sources((("goal", 0, ()), ("rule", 1, ()), ("rule", 2, ())),
                     (1, (("p", ("f", 0)),), ((("p", ("f", 0)),),)), 0, rule)

    def test_the_first_place_within_a_replacement(self):
        rule = ("r", (), ("p", ("f", ("g", 0, 1), 1, ("g", 2, 0))))
        self.sources((("goal", 0, (1, 1)), ("goal", 0, (1, 2)), ("goal", 0, (3, 1))),
                     (1, (("p", 0),), ((("p", 0),),)), 0, rule)

    def test_the_first_variable_of_the_goal(self):
        rule = ("r", (), ("p", ("s", 0), 0, ("f", 1, 0)))
        self.sources((("goal", 0, (1,)), ("goal", 2, (1,))), (3, (("p", 0, 1, 2),), ((("p", 0, 1, 2),),)), 0, rule)
        statement = (3, (("q", 0), ("p", 1, 0, 2)), ((("q", 0),),))
        self.sources((("goal", 0, ()), ("goal", 2, (1,))), statement, 1, rule)

    def test_variables_that_are_not_replaced(self):
        statement = (3, (("q", 0), ("p", 1), ("q", 2)), ((("q", 0),),))
        self.sources((("goal", 0, ()), ("goal", 1, (1,)), ("goal", 2, ())), statement, 1, ("r", (), ("p", ("s", 0))))
        self.sources((("goal", 0, ()), ("goal", 2, ())), statement, 1, ("r", (), ("p", Z)))

    def test_variables_that_become_equal(self):
        self.sources((("goal", 0, ()),), (2, (("p", 0, 1),), ((("p", 0, 1),),)), 0, ("r", (), ("p", 0, 0)))
        self.sources((("goal", 0, ()), ("goal", 1, ())), (2, (("p", 0, 1),), ((("p", 0, 1),),)), 0,
                     ("r", (), ("p", 0, 1)))

    def test_a_hypothesis_with_more_than_the_rule_says(self):
        statement = (2, (("p", ("s", 0), 1),), ((("p", ("s", 0), 1),),))
        self.sources((("goal", 0, ()), ("goal", 1, ())), statement, 0, ("r", (), ("p", 0, 1)))
        self.sources((("goal", 0, ()),), statement, 0, ("r", (), ("p", 0, 0)))
        self.sources((("goal", 0, ()), ("goal", 1, (1,)), ("rule", 2, ())), statement, 0,
                     ("r", (("q", 2),), ("p", 0, ("s", 1))))

    def test_refl(self):
        self.sources((("goal", 0, (1,)),), (2, (("=", 0, ("s", 1)),), ((("=", 0, ("s", 1)),),)), 0, REFL)
        self.sources((("goal", 0, (1,)), ("goal", 0, (2,))),
                     (3, (("=", 0, ("f", 1, 2)),), ((("=", 0, ("f", 1, 2)),),)), 0, REFL)

    def test_variables_that_stand_in_no_hypothesis(self):
        statement = (2, (("p", 0),), ((("q", 1), ("p", 0)), (("p", 0),)))
        argument = (("invert", 0), (("r", (("done", 1, ()), ())),))
        plan = plan_for(statement, argument, (("r", (), ("p", ("s", 0))),))
        self.assertEqual(plan, ("switch", 0, (("r", (("goal", 0, (1,)), ("goal", 1, ())), ("done", 1, (), (0,))),)))

    def test_one_inversion_behind_the_other(self):
        statement = (1, (("nat", 0),), ((("nat", 0),),))
        done = (("done", 0, ()), ())
        argument = (("invert", 0), (("natS", (("invert", 1), (("natS", done), ("natZ", done)))), ("natZ", done)))
        end = ("done", 0, (), (0,))
        self.assertEqual(plan_for(statement, argument), ("switch", 0, (
            ("natS", (("goal", 0, (1,)),), ("switch", 1, (("natS", (("goal", 0, (1,)),), end), ("natZ", (), end)))),
            ("natZ", (), end))))

    def test_all_small_rules_and_goals(self):
        """The sources lead to terms with which both the goal and the rule become what was inverted."""
        terms = (0, 1, Z, ("s", 0), ("s", 1), ("f", 1, 0))
        tried = 0
        for left in itertools.product(terms, repeat=2):
            for right in itertools.product(terms, repeat=2):
                goal = (("f", 0, 1),), ((("q", 0, 1), (0, False)), (("p",) + left, None))
                rule = ("r", (("q", 2, 1), ("q", 0, 3)), ("p",) + right)
                if inversion(goal, 1, rule) is not None:
                    tried += 1
                    self.agree(goal, 1, rule)
        self.assertGreater(tried, 500)


class RunTest(unittest.TestCase):

    def test_the_scope_of_summaries_and_the_system(self):
        modules = arithmetic()
        scope = scope_of(modules[2].summaries)
        entries = tuple(entry for parts, _ in members_of(modules) for entry in parts[4])
        self.assertEqual(plan_of(scope, entries), link(modules).make_plan())
        self.assertEqual(run_plan(plan_of(scope, entries), "addZero", (("t", ONE),), (("natT", (ONE,), (number(1),)),)),
                         link(modules).carry_out("addZero", (("t", ONE),), (("natT", (ONE,), (number(1),)),)))

    def test_plans_can_be_used_again(self):
        plan = link(arithmetic()[:1]).make_plan()
        told = repr(plan)
        for count in (0, 40, 2, 40, 3):
            term, derivation = nested(count, Z), number(count)
            if count == 40:
                with self.assertRaises(TooLarge):
                    run_plan(plan, "addZero", (term,), (derivation,))
            else:
                disjunct, terms, (made,) = run_plan(plan, "addZero", (term,), (derivation,))
                self.assertEqual((disjunct, terms, fact_of(NATURALS, made)), (0, (), ("add", term, Z, term)))
        self.assertEqual(repr(plan), told)


if __name__ == "__main__":
    unittest.main()
