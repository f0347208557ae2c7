"""The kernel [140] to [145]."""

import itertools
import unittest

from openrules.goals import case_goal, in_limits, initial_goal, inversions, numbered_goal, with_disjunct
from openrules.kernel import after_step, check_argument, is_lower
from openrules.rules import is_valid_rule
from openrules.statements import is_valid_statement
from samples import ADD_S, ADD_Z, EVEN, FINISH, FIRST, GOAL, LATER, NAT_Z, NATURALS, ODD, ONE, RIGHT, SCOPE, Z
from samples import broad, doubling_case, nested

A, B = ("a",), ("b",)
P, Q = ("p",), ("q",)
DONE = (("done", 0, ()), ())
SHIFT = ("addSRight", (3, (("add", 0, 1, 2),), ((("add", 0, ("s", 1), ("s", 2)),),)), (0,))
CASES = ("natCases", (1, (("nat", 0),), ((("=", 0, Z),), (("=", 0, ("s", 1)), ("nat", 1)))), ())
NEVER = ("never", (1, (("nat", ("t", 0)),), ()), ())
PAIR = ("pair", (2, (("nat", 0), ("nat", 1)), ((("add", 0, 1, 2), ("nat", 2)),)), (1, 0))
WIDE = (NATURALS, ((False, (CASES,)), (True, (RIGHT,)), (False, (NEVER,)), (True, (PAIR,)), (True, (SHIFT,))))
TWO_NATS = ((0, 1), ((("nat", 0), (1, False)), (("nat", 1), (0, False))))


def goals_after(*arguments):
    """The goals that a step leaves, without their labels."""
    return tuple(goal for _, goal in after_step(*arguments))


class LowerTest(unittest.TestCase):

    def test_one_position(self):
        self.assertIs(is_lower(((0, True),)), True)
        for bound in ((0, False), (1, True), (3, True), None):
            self.assertIs(is_lower((bound,)), False)

    def test_no_induction_premises(self):
        self.assertIs(is_lower(()), False)

    def test_the_example(self):
        self.assertIs(is_lower(((0, False), (1, True))), True)

    def test_a_later_position_is_lower(self):
        self.assertTrue(is_lower(((0, False), (1, False), (2, False), (3, True))))
        self.assertTrue(is_lower(((0, False), (1, True), None, None)))
        self.assertTrue(is_lower(((0, True), None, (0, False), (3, False))))
        self.assertTrue(is_lower(((0, True), (1, True))))

    def test_not_equal_ahead_of_it(self):
        for bound in (None, (1, False), (1, True), (3, False)):
            self.assertFalse(is_lower((bound, (1, True))))
            self.assertFalse(is_lower((bound, (1, True), (2, True))))
        self.assertFalse(is_lower(((0, False), None, (2, True))))
        self.assertFalse(is_lower(((0, False), (0, True), (2, True))))

    def test_equal_everywhere(self):
        self.assertFalse(is_lower(((0, False), (1, False), (2, False), (3, False))))

    def test_as_defined(self):
        bounds = [None] + [(position, strict) for position in range(3) for strict in (False, True)]
        for chosen in itertools.product(bounds, repeat=3):
            expected = any(chosen[place] == (place, True)
                           and all(chosen[earlier] in ((earlier, False), (earlier, True)) for earlier in range(place))
                           for place in range(3))
            self.assertIs(is_lower(chosen), expected, chosen)


class StepTest(unittest.TestCase):
    """Steps of one kind, checked by both functions: `fault` is the first word for the step, "" if it is valid."""

    scope = WIDE
    claim = "addZero"
    goal = GOAL

    def fault(self, expected, step, goal=None, claim=None, scope=None):
        goal = goal or self.goal
        claim = claim or self.claim
        scope = scope or self.scope
        self.assertTrue(in_limits(goal))
        self.assertEqual(numbered_goal(goal), goal)
        goals = after_step(scope, claim, goal, step)
        parts = tuple((label, DONE) for label, _ in goals or ())
        found = check_argument(scope, claim, goal, (step, parts))
        if expected:
            self.assertIsNone(goals, step)
            self.assertEqual(found, ((), expected), step)
        else:
            self.assertIsNotNone(goals, step)
            self.assertTrue(found is None or found[0], step)


class DoneTest(StepTest):

    goal = ((("s", 0),), ((("nat", 0), None), (("add", ("s", 0), Z, ("s", 0)), None), (("add", 0, Z, 0), None)))

    def test_no_goals_are_left(self):
        self.assertEqual(after_step(WIDE, "addZero", self.goal, ("done", 0, ())), ())
        self.assertIsNone(check_argument(WIDE, "addZero", self.goal, DONE))

    def test_disjunct(self):
        self.fault("", ("done", 0, ()))
        for number in (1, 2, 999):
            self.fault("disjunct", ("done", number, ()))
        goal = ((), ((P, None),))
        self.fault("disjunct", ("done", 0, ()), goal, "never")
        self.fault("disjunct", ("done", 0, (7,)), goal, "never")

    def test_values(self):
        self.fault("hypothesis", ("done", 0, ()), ((nested(2, 0),), self.goal[1]))
        self.fault("", ("done", 0, ()), ((0,), ((("add", 0, Z, 0), None),)))
        self.fault("hypothesis", ("done", 0, ()), ((0,), ((("add", 0, Z, 1), None),)))

    def test_existential_variables(self):
        goal = ((0,), ((("=", 0, ("s", 1)), None), (("nat", ("s", 2)), None), (("nat", 1), None),
                       (("=", 0, ("s", ONE)), None)))
        self.fault("", ("done", 1, (1,)), goal, "natCases")
        self.fault("hypothesis", ("done", 1, (2,)), goal, "natCases")
        self.fault("hypothesis", ("done", 1, (("s", 2),)), goal, "natCases")
        self.fault("hypothesis", ("done", 1, (ONE,)), goal, "natCases")
        self.fault("hypothesis", ("done", 0, ()), goal, "natCases")
        claim = ("order", (1, (("p", 0),), ((("r", 1, 0, 2),),)), ())
        self.assertTrue(is_valid_statement(claim[1]))
        scope = ((), ((False, (claim,)),))
        goal = ((0,), ((("r", A, 0, B), None),))
        self.fault("", ("done", 0, (A, B)), goal, "order", scope)
        self.fault("hypothesis", ("done", 0, (B, A)), goal, "order", scope)

    def test_number_of_terms(self):
        self.fault("term", ("done", 0, (0,)))
        goal = ((0,), ((("=", 0, ("s", 1)), None), (("nat", 1), None)))
        self.fault("", ("done", 1, (1,)), goal, "natCases")
        for terms in ((), (1, 1), 30 * (1,)):
            self.fault("term", ("done", 1, terms), goal, "natCases")

    def test_admissible_terms(self):
        for term in (2, ("s", 2), ("f", 0, 1, 3), broad(61), broad(1000), nested(12, Z), nested(59, 1)):
            goal = ((0,), ((("=", 0, ("s", 1)), None), (("nat", 1), None)))
            self.fault("term", ("done", 1, (term,)), goal, "natCases")
        for term in (broad(59), nested(10, Z)):
            goal = ((0,), ((("nat", term), None), (("p", 1), None)))
            self.fault("hypothesis", ("done", 1, (term,)), goal, "natCases")
        for term in (broad(60), nested(11, Z)):
            self.fault("hypothesis", ("done", 1, (term,)), goal, "natCases")

    def test_all_atoms_of_the_disjunct(self):
        claim = ("both", (1, (("p", 0),), ((("q", 0), ("t", 0)),)), ())
        scope = ((), ((False, (claim,)),))
        for atoms, fault in (((("q", 0), ("t", 0)), ""), ((("t", 0), ("p", 0), ("q", 0)), ""),
                             ((("q", 0),), "hypothesis"),
                             ((("t", 0), ("t", 0)), "hypothesis"), ((), "hypothesis")):
            goal = ((0,), tuple((atom, None) for atom in atoms))
            self.fault(fault, ("done", 0, ()), goal, "both", scope)

    def test_the_first_word(self):
        self.fault("disjunct", ("done", 1, (5,)))
        self.fault("term", ("done", 0, (5,)), ((0,), ()))


class RuleTest(StepTest):

    def test_the_goal_that_is_left(self):
        expected = (("", (GOAL[0], GOAL[1] + ((("nat", ("s", 0)), None),))),)
        self.assertEqual(after_step(WIDE, "addZero", GOAL, ("rule", "natS", (0,), (1,))), expected)
        expected = (("", (GOAL[0], GOAL[1] + ((("add", Z, ("s", 0), ("s", 0)), None),))),)
        self.assertEqual(after_step(WIDE, "addZero", GOAL, ("rule", "addZ", (("s", 0),), ())), expected)

    def test_rule(self):
        for name in ("nats", "addZero", "z", "evenNat"):
            self.fault("rule", ("rule", name, (0,), (1,)))
        self.fault("rule", ("rule", "natS", (0,), (1,)), scope=((NAT_Z,), SCOPE[1]))

    def test_refl(self):
        self.fault("", ("rule", "refl", (("s", 0),), ()))
        self.assertEqual(goals_after(WIDE, "addZero", GOAL, ("rule", "refl", (0,), ()))[0][1][2], (("=", 0, 0), None))
        self.fault("", ("rule", "refl", (0,), ()), scope=((), SCOPE[1]))
        self.fault("term", ("rule", "refl", (), ()))
        self.fault("hypothesis", ("rule", "refl", (0,), (0,)))

    def test_number_of_terms(self):
        self.fault("", ("rule", "natS", (0,), (1,)))
        for terms in ((), (0, 0), 30 * (0,)):
            self.fault("term", ("rule", "natS", terms, (1,)))
        self.fault("", ("rule", "natZ", (), ()))
        self.fault("term", ("rule", "natZ", (0,), ()))

    def test_variables_that_occur_in_premises_only(self):
        rule = ("any", (("nat", 1),), ("any", 0))
        scope = ((rule,), SCOPE[1])
        self.fault("", ("rule", "any", (A, 0), (1,)), scope=scope)
        self.fault("hypothesis", ("rule", "any", (0, A), (1,)), scope=scope)
        self.fault("term", ("rule", "any", (A,), (1,)), scope=scope)
        self.assertEqual(goals_after(scope, "addZero", GOAL, ("rule", "any", (A, 0), (1,)))[0][1][2],
                         (("any", A), None))

    def test_order_of_the_terms(self):
        goal = ((), ((("add", A, B, A), None),))
        self.fault("", ("rule", "addS", (A, B, A), (0,)), goal)
        self.fault("hypothesis", ("rule", "addS", (B, A, A), (0,)), goal)
        self.assertEqual(goals_after(WIDE, "addZero", goal, ("rule", "addS", (A, B, A), (0,)))[0][1][1],
                         (("add", ("s", A), B, ("s", A)), None))

    def test_admissible_terms(self):
        for term in (1, ("s", 1), 65535, broad(61), broad(1000), nested(12, Z), nested(59, 0)):
            self.fault("term", ("rule", "refl", (term,), ()))
            self.fault("term", ("rule", "natS", (term,), (1,)))
        for term in (0, ("f", 0, 0), broad(29), broad(29, 0), nested(10, Z), nested(10, 0)):
            self.fault("", ("rule", "refl", (term,), ()))
        self.fault("limits", ("rule", "refl", (broad(60),), ()))
        self.fault("limits", ("rule", "refl", (nested(11, 0),), ()))

    def test_a_variable_of_a_hypothesis_or_a_value(self):
        goal = ((0,), ((("p", 1), None),))
        self.fault("", ("rule", "refl", (("f", 0, 1),), ()), goal)
        self.fault("term", ("rule", "refl", (2,), ()), goal)
        self.fault("term", ("rule", "refl", (0,), ()), ((), ((P, None),)))

    def test_hypotheses(self):
        for numbers in ((), (0,), (1, 1), (2,), (999,), (1, 0), 30 * (1,)):
            self.fault("hypothesis", ("rule", "natS", (0,), numbers))
        self.fault("", ("rule", "natS", (("s", 0),), (0,)))
        self.fault("hypothesis", ("rule", "natZ", (), (0,)))
        goal = ((), ())
        self.fault("hypothesis", ("rule", "natS", (A,), (0,)), goal)

    def test_several_premises(self):
        rule = ("both", (("nat", 0), ("nat", 1), ("nat", 0)), ("both", 0, 1))
        scope = ((rule,), SCOPE[1])
        for numbers, fault in (((0, 1, 0), ""), ((1, 0, 1), "hypothesis"), ((0, 1, 1), "hypothesis"),
                               ((0, 1), "hypothesis"),
                               ((0, 0, 0), "hypothesis"), ((0, 1, 0, 1), "hypothesis")):
            self.fault(fault, ("rule", "both", (("s", 0), 0), numbers), scope=scope)
        self.fault("", ("rule", "both", (0, 0), (1, 1, 1)), scope=scope)

    def test_limits(self):
        full = ((), 30 * ((P, None),))
        self.fault("limits", ("rule", "natZ", (), ()), full)
        self.fault("", ("rule", "natZ", (), ()), ((), 29 * ((P, None),)))
        large = ((), 7 * ((("p", broad(55)), None),))
        self.fault("", ("rule", "addZ", (nested(2, Z),), ()), large)
        self.fault("limits", ("rule", "addZ", (nested(3, Z),), ()), large)
        rule = ("grow", (), ("p", ("f", 0, 0), A))
        scope = ((rule,), SCOPE[1])
        self.fault("", ("rule", "grow", (broad(28),), ()), scope=scope)
        self.fault("limits", ("rule", "grow", (broad(29),), ()), scope=scope)
        self.fault("", ("rule", "grow", (nested(9, Z),), ()), scope=scope)
        self.fault("limits", ("rule", "grow", (nested(10, Z),), ()), scope=scope)

    def test_the_first_word(self):
        self.fault("rule", ("rule", "none", (7, 7), (9, 9)))
        self.fault("term", ("rule", "natS", (7,), (9,)))
        self.fault("hypothesis", ("rule", "addS", (broad(60), broad(60), broad(60)), (9,)))
        full = ((), 30 * ((P, None),))
        self.fault("hypothesis", ("rule", "natZ", (), (0,)), full)


class ApplyTest(StepTest):

    def test_example(self):
        expected = (("", (GOAL[0], GOAL[1] + ((("add", 0, Z, 0), None),))),)
        self.assertEqual(after_step(SCOPE, "addZero", GOAL, ("apply", "addZero", (0,), (1,))), expected)

    def test_a_goal_for_each_disjunct(self):
        expected = tuple(("", with_disjunct(GOAL, CASES[1], number, (("s", 0),))) for number in range(2))
        self.assertEqual(after_step(WIDE, "addZero", GOAL, ("apply", "natCases", (("s", 0),), (0,))), expected)
        self.assertEqual(expected[1][1][1][2:], ((("=", ("s", 0), ("s", 1)), None), (("nat", 1), None)))

    def test_no_goals_are_left(self):
        goal = ((0,), ((("nat", ("t", ("s", 0))), None),))
        self.assertEqual(after_step(WIDE, "addZero", goal, ("apply", "never", (("s", 0),), (0,))), ())
        self.assertIsNone(check_argument(WIDE, "addZero", goal, (("apply", "never", (("s", 0),), (0,)), ())))

    def test_claim(self):
        for name in ("natS", "addzero", "refl"):
            self.fault("claim", ("apply", name, (0,), (1,)))
        self.fault("claim", ("apply", "evenNat", (0,), (1,)))

    def test_number_of_terms(self):
        for terms in ((), (0, 0), 30 * (0,)):
            self.fault("term", ("apply", "addZero", terms, (1,)))
        claim = ("more", (2, (("nat", 0),), ((("p", 1, 2),),)), ())
        scope = (NATURALS, SCOPE[1] + ((False, (claim,)),))
        self.fault("", ("apply", "more", (0, A), (1,)), scope=scope)
        self.fault("term", ("apply", "more", (0,), (1,)), scope=scope)
        self.fault("term", ("apply", "more", (0, A, A), (1,)), scope=scope)
        self.assertEqual(goals_after(scope, "addZero", GOAL, ("apply", "more", (0, A), (1,)))[0][1][2],
                         (("p", A, 1), None))

    def test_admissible_terms(self):
        claim = ("free", (1, (), ((("p", 0),),)), ())
        scope = (NATURALS, SCOPE[1] + ((False, (claim,)),))
        for term in (1, ("s", 1), 65535, broad(61), broad(1000), nested(12, Z), nested(59, 0)):
            self.fault("term", ("apply", "free", (term,), ()), scope=scope)
        for term in (0, broad(59), broad(59, 0), nested(10, Z), nested(10, 0)):
            self.fault("", ("apply", "free", (term,), ()), scope=scope)
        for term in (broad(60), nested(11, 0)):
            self.fault("limits", ("apply", "free", (term,), ()), scope=scope)

    def test_hypotheses(self):
        for numbers in ((), (0,), (1, 1), (2,), (999,), 30 * (1,)):
            self.fault("hypothesis", ("apply", "addZero", (0,), numbers))
        for numbers, fault in (((0, 1), ""), ((1, 0), "hypothesis"), ((0,), "hypothesis"), ((0, 1, 1), "hypothesis")):
            self.fault(fault, ("apply", "pair", (("s", 0), 0), numbers))
        self.fault("", ("apply", "pair", (0, 0), (1, 1)))

    def test_lower(self):
        self.fault("", ("apply", "addZero", (0,), (1,)))
        self.fault("lower", ("apply", "addZero", (("s", 0),), (0,)))
        for bound in (None, (0, False), (1, True)):
            goal = ((("s", 0),), ((("nat", 0), bound),))
            self.fault("lower", ("apply", "addZero", (0,), (0,)), goal)
            self.fault("", ("apply", "addZero", (0,), (0,)), goal, "natCases")

    def test_positions_of_the_applied_theorem(self):
        """The induction premises of pair are its premise 1, and then its premise 0."""
        for first, second, fault in (
            ((0, True), None, ""), ((0, False), (1, True), ""), ((0, False), (1, False), "lower"),
            (None, (1, True), "lower"),
            ((1, True), (0, True), "lower"), ((0, True), (0, True), ""), ((0, False), (0, True), "lower"),
        ):
            goal = ((0, 1), ((("nat", 0), first), (("nat", 1), second)))
            self.fault(fault, ("apply", "pair", (1, 0), (1, 0)), goal, "pair")

    def test_theorems_of_the_same_block(self):
        scope = ((), ((True, (EVEN, ODD)), (True, (RIGHT,))))
        goal = ((("s", 0),), ((("odd", 0), (0, True)), (("even", 0), (0, False)), (("nat", 0), (0, False))))
        self.fault("", ("apply", "oddNat", (0,), (0,)), goal, "evenNat", scope)
        self.fault("lower", ("apply", "evenNat", (0,), (1,)), goal, "evenNat", scope)
        self.fault("lower", ("apply", "evenNat", (0,), (1,)), goal, "oddNat", scope)
        self.fault("", ("apply", "evenNat", (0,), (1,)), goal, "addZero", scope)
        self.fault("", ("apply", "addZero", (0,), (2,)), goal, "oddNat", scope)

    def test_theorems_without_induction_premises(self):
        self.fault("lower", ("apply", "natCases", (0,), (1,)), claim="natCases")
        self.fault("", ("apply", "natCases", (0,), (1,)))
        second = ("second", (0, (), ((P,),)), ())
        scope = ((), ((False, (CASES, second)),))
        self.fault("lower", ("apply", "second", (), ()), claim="natCases", scope=scope)

    def test_limits(self):
        full = ((), 30 * ((("nat", A), None),))
        self.fault("limits", ("apply", "addZero", (A,), (0,)), full, "natCases")
        less = ((), 29 * ((("nat", A), None),))
        self.fault("", ("apply", "addZero", (A,), (0,)), less, "natCases")
        self.fault("limits", ("apply", "natCases", (A,), (0,)), less)
        self.fault("", ("apply", "natCases", (A,), (0,)), ((), less[1][1:]))
        goal = ((), ((("nat", ("t", A)), None),) + 29 * ((P, None),))
        self.fault("", ("apply", "never", (A,), (0,)), goal)

    def test_the_first_word(self):
        self.fault("claim", ("apply", "none", (7, 7), (9, 9)))
        self.fault("term", ("apply", "addZero", (7,), (9,)))
        self.fault("hypothesis", ("apply", "addZero", (0,), (0,)))
        full = ((), 30 * ((("nat", A), None),))
        self.fault("lower", ("apply", "addZero", (A,), (0,)), full)


class InvertTest(StepTest):

    def test_the_goals_that_are_left(self):
        goal = ((0, 1), ((("add", 0, 1, 1), (0, False)), (("nat", 1), None)))
        for number in range(2):
            self.assertEqual(after_step(WIDE, "pair", goal, ("invert", number)), inversions(NATURALS, goal, number))
        self.assertEqual([name for name, _ in after_step(WIDE, "pair", goal, ("invert", 0))], ["addS", "addZ"])

    def test_refl(self):
        goal = ((0,), ((("=", 0, A), None),))
        self.assertEqual(after_step(WIDE, "addZero", goal, ("invert", 0)), (("refl", ((A,), ((("=", A, A), None),))),))

    def test_no_rule_leads_to_a_goal(self):
        goal = ((0,), ((("=", 0, ("s", 0)), None), (("nat", ("t", 0)), None)))
        for number in range(2):
            self.assertEqual(after_step(WIDE, "addZero", goal, ("invert", number)), ())
            self.assertIsNone(check_argument(WIDE, "addZero", goal, (("invert", number), ())))

    def test_hypothesis(self):
        self.fault("", ("invert", 0))
        self.fault("", ("invert", 1))
        for number in (2, 3, 999):
            self.fault("hypothesis", ("invert", number))
        self.fault("hypothesis", ("invert", 0), ((), ()))

    def test_limits(self):
        goal = ((), ((("nat", 0), None),) + 29 * ((P, None),))
        self.fault("limits", ("invert", 0), goal)
        self.fault("", ("invert", 0), goal, scope=((NAT_Z,), SCOPE[1]))
        self.fault("", ("invert", 0), ((), goal[1][:29]))

    def test_limits_of_terms_with_millions_of_names(self):
        atom, conclusion = doubling_case()
        rule = ("double", (), conclusion)
        self.assertTrue(is_valid_rule(rule))
        goal = numbered_goal(((), ((atom, None),)))
        self.fault("limits", ("invert", 0), goal, scope=((rule,), SCOPE[1]))
        self.fault("limits", ("invert", 0), goal, scope=((NAT_Z, rule) + NATURALS[2:], SCOPE[1]))
        self.fault("", ("invert", 0), goal)


class ScopeTest(unittest.TestCase):

    def test_any_order(self):
        steps = (("rule", "natS", (0,), (1,)), ("apply", "addZero", (0,), (1,)), ("apply", "pair", (0, 0), (1, 1)),
                 ("invert", 0))
        expected = [after_step(WIDE, "addZero", GOAL, step) for step in steps]
        self.assertNotIn(None, expected)
        scopes = [(rules, WIDE[1]) for rules in itertools.permutations(WIDE[0])]
        scopes += [(WIDE[0], blocks) for blocks in itertools.permutations(WIDE[1])]
        for scope in scopes:
            self.assertEqual([after_step(scope, "addZero", GOAL, step) for step in steps], expected)

    def test_any_order_of_theorems_in_a_block(self):
        goal = ((("s", 0),), ((("odd", 0), (0, True)),))
        for claims in ((EVEN, ODD), (ODD, EVEN)):
            self.assertIsNotNone(after_step(((), ((True, claims),)), "evenNat", goal, ("apply", "oddNat", (0,), (0,))))


class CheckTest(unittest.TestCase):

    def fault(self, expected, argument, goal=GOAL, claim="addZero", scope=WIDE):
        self.assertEqual(check_argument(scope, claim, goal, argument), expected)

    def test_examples(self):
        self.fault(None, LATER, scope=SCOPE)
        self.fault(None, FIRST, case_goal(RIGHT, NAT_Z), scope=SCOPE)
        self.fault(((), "lower"), (("apply", "addZero", (("s", 0),), (0,)), ()), scope=SCOPE)

    def test_the_example_of_145(self):
        scope = (NATURALS, ((True, (SHIFT,)),))
        goal = case_goal(SHIFT, ADD_S)
        done = (("rule", "addS", (0, ("s", 1), ("s", 2)), (2,)), FINISH)
        self.fault(None, (("apply", "addSRight", (0, 1, 2), (1,)), (("", done),)), goal, "addSRight", scope)
        wrong = ("apply", "addSRight", (("s", 0), 1, ("s", 2)), (0,))
        self.fault(((), "lower"), (wrong, (("", done),)), goal, "addSRight", scope)
        first = (("rule", "addZ", (("s", 0),), ()), FINISH)
        self.fault(None, first, case_goal(SHIFT, ADD_Z), "addSRight", scope)

    def test_parts(self):
        step = ("rule", "natS", (0,), (1,))
        self.fault(((), "parts"), (step, ()))
        self.fault(((), "parts"), (step, (("", DONE), ("", DONE))))
        self.fault(((), "parts"), (("invert", 0), (("natS", LATER),) * 2))
        self.fault(((), "parts"), (("done", 0, ()), (("", DONE),)), ((0,), ((("add", 0, Z, 0), None),)))
        self.fault(((), "parts"), (("invert", 0), ()))

    def test_label(self):
        for label in ("natS", "a", "refl"):
            self.fault(((), "label"), (("apply", "addZero", (0,), (1,)), ((label, LATER[1][0][1]),)))
        for label in ("", "natZ", "s"):
            self.fault(((), "label"), (("invert", 0), ((label, LATER),)))
        goal = ((0,), ((("nat", 0), None),))
        cases = (("natS", (("invert", 1), (("natS", DONE), ("natZ", DONE)))), ("natZ", DONE))
        self.fault(((), "label"), (("invert", 0), cases[::-1]), goal)
        self.fault(((), "label"), (("invert", 0), (cases[0], ("natS", DONE))), goal)
        self.fault(((0, 0), "hypothesis"), (("invert", 0), cases), goal)

    def test_limits_before_parts_and_label(self):
        full = ((), 30 * ((P, None),))
        self.fault(((), "limits"), (("rule", "natZ", (), ()), ()), full)
        self.fault(((), "limits"), (("rule", "natZ", (), ()), (("a", DONE),)), full)
        self.fault(((), "hypothesis"), (("rule", "natZ", (), (0,)), ()), full)

    def test_parts_before_label(self):
        self.fault(((), "parts"), (("rule", "natZ", (), ()), (("a", DONE), ("b", DONE))))

    def test_a_step_before_its_parts(self):
        wrong = (("done", 7, ()), ())
        self.fault(((), "rule"), (("rule", "none", (), ()), (("", wrong),)))
        self.fault(((), "label"), (("rule", "natZ", (), ()), (("a", wrong),)))
        self.fault(((0,), "disjunct"), (("rule", "natZ", (), ()), (("", wrong),)))

    def test_each_part_completely_before_the_next(self):
        goal = TWO_NATS
        good = (("invert", 1), (("natS", DONE), ("natZ", DONE)))
        unknown, parts = (("rule", "none", (), ()), ()), (("rule", "natZ", (), ()), ())
        for first, second, expected in (
            (unknown, parts, ((0,), "rule")), (parts, unknown, ((0,), "parts")),
            ((("invert", 1), (("natS", unknown), ("natZ", parts))), unknown, ((0, 0), "rule")),
            (good, unknown, ((0, 0), "term")),
        ):
            self.fault(expected, (("invert", 0), (("natS", first), ("natZ", second))), goal, "pair")

    def test_later_parts(self):
        goal = ((0,), ((("nat", 0), None), (("add", 0, Z, 0), None)))
        deep = (("invert", 0), (("natS", DONE), ("natZ", (("rule", "natZ", (), (9,)), ()))))
        self.fault(((1,), "hypothesis"), deep, goal)
        self.fault(None, (("invert", 0), (("natS", DONE), ("natZ", DONE))), goal)
        both = (("apply", "natCases", (0,), (0,)), (("", DONE), ("", deep)))
        self.fault(((1, 1), "hypothesis"), both, goal)
        self.fault(((0, 1), "hypothesis"), (both[0], both[1][::-1]), goal)

    def test_deep_inside(self):
        argument = (("rule", "natZ", (), (0,)), ())
        for _ in range(25):
            argument = (("rule", "natZ", (), ()), (("", argument),))
        self.fault((25 * (0,), "hypothesis"), argument)

    def test_long_proofs(self):
        """The kernel does not look at the numbers of steps and the depths of proofs."""
        goal = ((0,), ((("add", 0, Z, 0), None), (("=", A, A), None)))
        argument = DONE
        for _ in range(59):
            argument = (("invert", 1), (("refl", argument),))
        self.fault(None, argument, goal)
        self.fault((59 * (0,), "disjunct"), self.replaced(argument, (("done", 1, ()), ())), goal)

    def replaced(self, argument, last):
        step, parts = argument
        if not parts:
            return last
        return (step, tuple((label, self.replaced(part, last)) for label, part in parts))

    def test_wide_proofs(self):
        goal = ((0,), ((("add", 0, Z, 0), None), (("nat", A), None)))
        argument = DONE
        for _ in range(7):
            argument = (("apply", "natCases", (A,), (1,)), (("", argument), ("", argument)))
        self.fault(None, argument, goal)

    def test_nothing_to_invert(self):
        goal = ((0,), ((("=", ("s", 0), Z), None),))
        self.fault(None, (("invert", 0), ()), goal)

    def test_the_whole_theorem_by_inversion(self):
        goal = initial_goal(RIGHT)
        self.fault(None, (("invert", 0), (("natS", LATER), ("natZ", FIRST))), goal)
        self.fault(((), "label"), (("invert", 0), (("natZ", FIRST), ("natS", LATER))), goal)
        self.fault(((0,), "hypothesis"), (("invert", 0), (("natS", FIRST[1][0][1]), ("natZ", FIRST))), goal)


if __name__ == "__main__":
    unittest.main()
