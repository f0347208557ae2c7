"""Goals [122] to [126]."""

import itertools
import unittest

from openrules.errors import TooLarge
from openrules.goals import case_goal, in_limits, initial_goal, inversion, inversions, numbered_goal, with_disjunct
from openrules.rules import REFL, is_valid_rule
from openrules.statements import is_valid_statement
from openrules.terms import numbered, substitute, variables_of
from openrules.unification import overlaps, unify
from samples import ADD_S, ADD_Z, EVEN, GOAL, NAT_S, NAT_Z, NATURALS, ODD, RIGHT, Z, broad, doubling_case, nested

A, B, C = ("a",), ("b",), ("c",)
P, Q = ("p",), ("q",)
LAST = 65535


def atoms_of(goal):
    return tuple(atom for atom, _ in goal[1])


def bounds_of(goal):
    return tuple(bound for _, bound in goal[1])


def goal_of(values, *atoms, bound=None):
    """The numbered goal with these values and hypotheses, of which the first one has the bound."""
    hypotheses = tuple((atom, None if place else bound) for place, atom in enumerate(atoms))
    return numbered_goal((values, hypotheses))


class NumberedTest(unittest.TestCase):

    def test_values_first(self):
        goal = ((7, ("f", 3)), ((("p", 5, 3), None), (("q", 0, 7), (1, True))))
        self.assertEqual(numbered_goal(goal), ((0, ("f", 1)), ((("p", 2, 1), None), (("q", 3, 0), (1, True)))))

    def test_nothing(self):
        self.assertEqual(numbered_goal(((), ())), ((), ()))
        self.assertEqual(numbered_goal(((LAST,), ())), ((0,), ()))
        self.assertEqual(numbered_goal(((), ((("=", 9, ("s", 4)), (0, False)),))),
                         ((), ((("=", 0, ("s", 1)), (0, False)),)))

    def test_numbered_already(self):
        self.assertEqual(numbered_goal(GOAL), GOAL)

    def test_many_hypotheses(self):
        hypotheses = tuple((("p", 100 - number, 100 - number // 2), None) for number in range(40))
        goal = numbered_goal((tuple(range(60, 72)), hypotheses))
        self.assertEqual(goal[0], tuple(range(12)))
        self.assertEqual(numbered(goal[0] + atoms_of(goal)), goal[0] + atoms_of(goal))
        self.assertEqual((len(goal[1]), numbered_goal(goal)), (40, goal))


class LimitsTest(unittest.TestCase):

    def limits(self, expected, values, *atoms):
        self.assertIs(in_limits((values, tuple((atom, None) for atom in atoms))), expected)

    def test_number_of_hypotheses(self):
        self.limits(True, (), *30 * (P,))
        self.limits(False, (), *31 * (P,))
        self.limits(False, (), *60 * (P,))

    def test_number_of_values(self):
        self.limits(True, ())
        self.limits(True, 12 * (Z,))

    def test_sizes(self):
        self.limits(True, (broad(60), Z), ("p", broad(59)), P)
        self.limits(False, (Z, broad(61)), P)
        self.limits(False, (Z,), P, ("p", broad(60)))
        self.limits(True, (), ("=", broad(29), broad(30)))
        self.limits(False, (), ("=", broad(30), broad(30)))

    def test_depths(self):
        self.limits(True, (nested(11, Z), Z), ("p", nested(10, 0)), P)
        self.limits(False, (Z, nested(12, Z)), P)
        self.limits(False, (Z,), P, ("p", nested(11, 0)))

    def test_sum_of_the_sizes(self):
        self.limits(True, 3 * (broad(60),), ("p", broad(59)), ("p", broad(59)), ("p", broad(59)), ("p", broad(39)))
        self.limits(False, 3 * (broad(60),), ("p", broad(59)), ("p", broad(59)), ("p", broad(59)), ("p", broad(40)))
        self.limits(True, (), *20 * (("p", broad(19)),))
        self.limits(False, (0,), *20 * (("p", broad(19)),))
        self.limits(False, (), *10 * (("p", broad(59)),))

    def test_need_not_be_numbered(self):
        self.limits(True, (LAST, 3), ("p", 7))

    def test_nothing(self):
        self.limits(True, ())


class InitialTest(unittest.TestCase):

    def test_examples(self):
        self.assertEqual(initial_goal(RIGHT), ((0,), ((("nat", 0), (0, False)),)))
        self.assertEqual(initial_goal(ODD), ((0,), ((("odd", 0), (0, False)),)))

    def test_positions(self):
        premises = (("p", 0), ("p", 1), ("p", 2), ("p", 3))
        for count in range(5):
            for induction in itertools.permutations(range(4), count):
                values, hypotheses = initial_goal(("claim", (4, premises, ()), induction))
                self.assertEqual((values, tuple(atom for atom, _ in hypotheses)), ((0, 1, 2, 3), premises))
                for number, (_, bound) in enumerate(hypotheses):
                    expected = (induction.index(number), False) if number in induction else None
                    self.assertEqual(bound, expected)

    def test_universal_variables_of_disjuncts(self):
        claim = ("claim", (3, (("p", 0),), ((("q", 1, 3), ("r", 2)),)), ())
        self.assertEqual(initial_goal(claim), ((0, 1, 2), ((("p", 0), None),)))
        self.assertEqual(initial_goal(("claim", (0, (), ()), ())), ((), ()))


class InversionTest(unittest.TestCase):

    goal = ((0, 1), ((("add", 0, 1, 1), (0, False)), (("nat", 1), None)))
    by_s = ((("s", 0), ("s", 1)), ((("add", ("s", 0), ("s", 1), ("s", 1)), (0, False)), (("nat", ("s", 1)), None),
                                   (("add", 0, ("s", 1), 1), (0, True))))
    by_z = ((Z, 0), ((("add", Z, 0, 0), (0, False)), (("nat", 0), None)))

    def test_examples(self):
        self.assertEqual(inversion(self.goal, 0, ADD_S), self.by_s)
        self.assertEqual(inversion(self.goal, 0, ADD_Z), self.by_z)

    def test_no_goal(self):
        self.assertIsNone(inversion(self.goal, 0, NAT_S))
        self.assertIsNone(inversion(self.goal, 0, REFL))
        self.assertIsNone(inversion(self.goal, 1, ADD_S))
        self.assertIsNone(inversion(((), ((("nat", A), None),)), 0, NAT_S))
        self.assertIsNone(inversion(((0,), ((("p", 0, ("s", 0)), None),)), 0, ("r", (), ("p", 0, 0))))
        self.assertIsNone(inversion(((0,), ((("p", 0), None),)), 0, ("r", (), ("p", 0, 0))))

    def test_bounds(self):
        rule = ("r", (P, ("q", 0), P), ("p", 0))
        for bound, lower in (((0, False), (0, True)), ((2, False), (2, True)), ((3, True), (3, True)), (None, None)):
            hypotheses = ((("p", 1), (1, False)), (("p", 0), bound), (Q, None), (Q, (0, True)))
            goal = inversion(((0, 1), hypotheses), 1, rule)
            self.assertEqual(bounds_of(goal), ((1, False), bound, None, (0, True)) + 3 * (lower,))
            self.assertEqual(atoms_of(goal)[4:], (P, ("q", 0), P))

    def test_refl(self):
        goal = ((0, 1), ((("p", 1, 0), None), (("=", ("f", 0, A), ("f", 1, 2)), (0, False))))
        self.assertEqual(inversion(goal, 1, REFL),
                         ((0, 0), ((("p", 0, 0), None), (("=", ("f", 0, A), ("f", 0, A)), (0, False)))))
        self.assertIsNone(inversion(((0,), ((("=", 0, ("s", 0)), None),)), 0, REFL))
        self.assertIsNone(inversion(((0,), ((("=", A, B), None),)), 0, REFL))
        goal = ((0,), ((("=", 0, 0), None), (("=", A, 0), None)))
        self.assertEqual(inversion(goal, 0, REFL), goal)
        self.assertEqual(inversion(goal, 1, REFL), ((A,), ((("=", A, A), None), (("=", A, A), None))))

    def test_the_variables_of_the_rule_are_new(self):
        """The goal has the same variables as the rule; they have nothing to do with each other."""
        rule = ("r", (("q", 1, 2), ("q", 3, 0)), ("p", 0, 1))
        goal = ((0, 1, 2, 3), ((("p", ("f", 1), 0), None), (("t", 2, 3), None)))
        expected = ((0, 1, 2, 3), (("p", ("f", 1), 0), ("t", 2, 3), ("q", 0, 4), ("q", 5, ("f", 1))))
        result = inversion(goal, 0, rule)
        self.assertEqual((result[0], atoms_of(result)), expected)

    def test_conclusions_with_the_variables_of_the_goal(self):
        rule = ("swap", (("q", 0, 1),), ("p", ("f", 0), ("g", 1)))
        goal = ((0, 1), ((("p", 1, 0), None),))
        expected = ((("g", 0), ("f", 1)), (("p", ("f", 1), ("g", 0)), ("q", 1, 0)))
        result = inversion(goal, 0, rule)
        self.assertEqual((result[0], atoms_of(result)), expected)

    def test_the_result_is_numbered(self):
        rule = ("r", (("q", 2), ("q", 1)), ("p", ("f", 1, 0)))
        goal = ((0,), ((("q", 1), None), (("p", 0), None)))
        result = inversion(goal, 1, rule)
        self.assertEqual(result[0] + atoms_of(result), (("f", 0, 1), ("q", 2), ("p", ("f", 0, 1)), ("q", 3), ("q", 0)))

    def test_the_inverted_hypothesis_stays(self):
        goal = inversion(GOAL, 1, NAT_S)
        self.assertEqual(goal[0], (nested(2, 0),))
        self.assertEqual(goal[1],
                         ((("nat", nested(2, 0)), (0, False)), (("nat", ("s", 0)), (0, True)), (("nat", 0), (0, True))))
        self.assertEqual(inversion(goal, 0, NAT_S)[1], goal[1] + ((("nat", ("s", 0)), (0, True)),))

    def test_as_defined(self):
        """The values, hypotheses and premises are the most general instances for which the sides are equal."""
        parts = [0, 1, A, ("f", 0, 1), ("f", A, 2), ("f", 1, 1)]
        rules = [("r", (("q", 2, 0), ("t", 1)), ("p", 0, 1)), ("r", (("q", 0, 1),), ("p", ("f", 0, 1), 0)),
                 ("r", (), ("p", 0, ("f", 0, 0))), ("r", (("q", 1, 1),), ("p", ("f", ("f", 0, A), 0), ("f", 1, 0)))]
        self.assertTrue(all(is_valid_rule(rule) for rule in rules))
        found = 0
        for left, right, value, rule in itertools.product(parts, parts, parts, rules):
            goal = goal_of((value, 2), ("q", 2, value), ("p", left, right))
            pairs = tuple((number, number + 100) for number in range(12))
            premises = tuple(substitute(atom, pairs) for atom in rule[1])
            whole = goal[0] + atoms_of(goal) + premises
            joined = unify(("w",) + whole + (atoms_of(goal)[1],), ("w",) + whole + (substitute(rule[2], pairs),))
            result = inversion(goal, 1, rule)
            if joined is None:
                self.assertIsNone(result)
            else:
                found += 1
                self.assertEqual(result[0] + atoms_of(result), joined[1:-1])
        self.assertGreater(found, 200)


class InversionLimitsTest(unittest.TestCase):

    def refused(self, goal, hypothesis, rule):
        self.assertTrue(in_limits(goal))
        with self.assertRaises(TooLarge):
            inversion(goal, hypothesis, rule)

    def test_number_of_hypotheses(self):
        rule = ("r", (P, P, P, P), ("q", 0))
        goal = goal_of((), *26 * (("q", A),))
        self.assertEqual(len(inversion(goal, 0, rule)[1]), 30)
        self.refused(goal_of((), *27 * (("q", A),)), 0, rule)

    def test_size_of_a_value(self):
        rule = ("r", (), ("p", broad(29)))
        self.assertEqual(inversion(goal_of((("b", 0, 0, A),), ("p", 0)), 0, rule)[0], (("b", broad(29), broad(29), A),))
        self.refused(goal_of((("b", 0, 0, A, A),), ("p", 0)), 0, rule)

    def test_size_of_a_hypothesis(self):
        rule = ("r", (), ("p", broad(29)))
        inversion(goal_of((), ("p", 0), ("q", 0, 0, A)), 0, rule)
        self.refused(goal_of((), ("p", 0), ("q", 0, 0, A, A)), 0, rule)

    def test_size_of_a_premise(self):
        for count, fits in ((29, True), (30, False)):
            rule = ("r", (P, ("q", 0, 0, A)), ("p", 0))
            goal = goal_of((), ("p", broad(count)))
            if fits:
                self.assertEqual(atoms_of(inversion(goal, 0, rule))[2], ("q", broad(29), broad(29), A))
            else:
                self.refused(goal, 0, rule)

    def test_depths(self):
        rule = ("r", (("q", nested(5, 0)),), ("p", 0))
        inversion(goal_of((0,), ("p", nested(5, A))), 0, rule)
        self.refused(goal_of((0,), ("p", nested(6, A))), 0, rule)
        fact = ("r", (), ("p", nested(5, Z)))
        inversion(goal_of((nested(6, 0),), ("p", 0)), 0, fact)
        self.refused(goal_of((nested(7, 0),), ("p", 0)), 0, fact)
        inversion(goal_of((), ("p", 0), ("q", nested(5, 0))), 0, fact)
        self.refused(goal_of((), ("p", 0), ("q", nested(6, 0))), 0, fact)

    def test_sum_of_the_sizes(self):
        """The hypothesis has the size 2 and then 50; 6 others have 50, and the values and premises the rest."""
        others = 6 * (("q", broad(49, A)),)
        fact = ("r", (P,), ("p", broad(48)))
        self.assertEqual(inversion(goal_of((0,), ("p", 0), *others), 0, fact)[0], (broad(48),))
        sums = {count: goal_of((0, broad(count, A)), ("p", 0), *others) for count in (2, 3, 4)}
        # 48 + count + 49 + 300 + 1
        self.assertEqual(inversion(sums[2], 0, fact)[0][1], broad(2, A))
        self.refused(sums[3], 0, fact)

    def test_millions_of_names(self):
        """Each of eight variables is replaced by four occurrences of the next one."""
        eight = [("g",) + 4 * (number,) for number in range(1, 5)]
        rule = ("r", (("t", 0),), ("p", 0, 1, 2, 3, eight[0], eight[1], eight[2], eight[3]))
        self.assertTrue(is_valid_rule(rule))
        goal = ((0,),
                ((("p", ("g", 1, 1, 1, 1), ("g", 2, 2, 2, 2), ("g", 3, 3, 3, 3), ("g", 4, 4, 4, 4), 1, 2, 3, 4), None),
                       (("t", 0), None)))
        self.refused(numbered_goal(goal), 0, rule)

    def test_millions_of_names_by_doubling(self):
        atom, conclusion = doubling_case()
        rule = ("r", (("t", 0),), conclusion)
        self.assertTrue(is_valid_rule(rule))
        self.refused(goal_of((0,), atom), 0, rule)

    def test_millions_of_names_but_no_goal(self):
        goal = goal_of((0,), doubling_case(A)[0])
        rule = ("r", (), doubling_case(B)[1])
        self.assertTrue(is_valid_rule(rule) and in_limits(goal))
        self.assertIsNone(inversion(goal, 0, rule))


class InversionsTest(unittest.TestCase):

    def test_example(self):
        goal = InversionTest.goal
        expected = (("addS", InversionTest.by_s), ("addZ", InversionTest.by_z))
        for order in itertools.permutations(NATURALS):
            self.assertEqual(inversions(order, goal, 0), expected)
        self.assertEqual(inversions((ADD_Z, ADD_S), goal, 0), expected)
        self.assertEqual(inversions((ADD_Z, ADD_S), goal, 1), ())
        self.assertEqual(inversions((), goal, 0), ())

    def test_by_name_and_refl(self):
        rules = tuple((name, (), ("p", 0)) for name in ("refm", "refk", "reflA", "a", "z"))
        found = inversions(rules, ((), ((("p", A), None),)), 0)
        self.assertEqual([name for name, _ in found], ["a", "refk", "reflA", "refm", "z"])
        goal = ((0,), ((("=", 0, A), None),))
        self.assertEqual(inversions(rules, goal, 0), (("refl", ((A,), ((("=", A, A), None),))),))
        self.assertEqual(inversions(rules, ((0,), ((("=", 0, ("s", 0)), None),)), 0), ())

    def test_one_goal_is_too_large(self):
        goal = ((("f", 0, 0),), ((("p", 0), None),))
        large = ("b", (), ("p", broad(30)))
        self.assertEqual(len(inversions((("a", (), ("p", Z)), ("c", (), ("p", A))), goal, 0)), 2)
        for place in range(3):
            rules = [("a", (), ("p", Z)), ("c", (), ("p", A))]
            rules.insert(place, large)
            self.assertTrue(in_limits(goal))
            with self.assertRaises(TooLarge):
                inversions(tuple(rules), goal, 0)
        self.assertEqual(len(inversions((large,), ((), ((("p", Z), None),)), 0)), 0)

    def test_as_inversion(self):
        goal = goal_of((0, 1), ("add", 0, 1, 2), ("nat", ("s", 1)), ("=", 0, ("s", 2)), bound=(0, False))
        for number in range(3):
            expected = []
            for rule in (ADD_S, ADD_Z, NAT_S, NAT_Z, REFL):
                result = inversion(goal, number, rule)
                if result is not None:
                    expected.append((rule[0], result))
            self.assertEqual(inversions(NATURALS, goal, number), tuple(expected))
            self.assertTrue(expected)


class CaseTest(unittest.TestCase):

    def test_examples(self):
        self.assertEqual(case_goal(RIGHT, NAT_S), GOAL)
        self.assertEqual(case_goal(RIGHT, NAT_Z), ((Z,), ((("nat", Z), (0, False)),)))
        self.assertIsNone(case_goal(RIGHT, ADD_Z))
        self.assertIsNone(case_goal(RIGHT, REFL))

    def test_the_goal_of_145(self):
        claim = ("addSRight", (3, (("add", 0, 1, 2),), ((("add", 0, ("s", 1), ("s", 2)),),)), (0,))
        hypotheses = ((("add", ("s", 0), 1, ("s", 2)), (0, False)), (("add", 0, 1, 2), (0, True)))
        self.assertEqual(case_goal(claim, ADD_S), ((("s", 0), 1, ("s", 2)), hypotheses))

    def test_the_first_induction_premise(self):
        premises = (("even", 0), ("nat", 1), ("nat", 0))
        for induction, number in (((1, 0), 1), ((2, 1), 2)):
            claim = ("claim", (2, premises, ()), induction)
            self.assertEqual(case_goal(claim, NAT_S), inversion(initial_goal(claim), number, NAT_S))
            self.assertEqual(bounds_of(case_goal(claim, NAT_S))[-1], (0, True))
            self.assertEqual(bounds_of(case_goal(claim, NAT_S))[number], (0, False))

    def test_refl(self):
        claim = ("claim", (2, (("=", 0, ("s", 1)),), ((("p", 1),),)), (0,))
        self.assertEqual(case_goal(claim, REFL), ((("s", 0), 0), ((("=", ("s", 0), ("s", 0)), (0, False)),)))
        self.assertIsNone(case_goal(claim, NAT_S))
        self.assertIsNone(case_goal(EVEN, REFL))

    def test_a_rule_applies_although_the_goal_is_not_within_the_limits(self):
        claim = ("claim", (1, (("p", 0), ("q", 0, 0)), ()), (0,))
        for count in (28, 29, 30, 31, 58):
            rule = ("r", (), ("p", broad(count)))
            self.assertTrue(overlaps(rule[2], claim[1][1][0]))
            if count <= 29:
                self.assertEqual(case_goal(claim, rule)[0], (broad(count),))
            else:
                with self.assertRaises(TooLarge):
                    case_goal(claim, rule)

    def test_rules_that_apply(self):
        atoms = [("p", 0, 1), ("p", ("s", 0), A), ("p", 0, 0), ("p", A, 0), ("p", ("s", 0), 0), ("q", 0, 0),
                 ("=", 0, ("s", 0))]
        for premise, conclusion in itertools.product(atoms, atoms[:-1]):
            claim = ("claim", (len(variables_of((premise,))), (premise,), ()), (0,))
            applies = overlaps(premise, conclusion)
            self.assertEqual(case_goal(claim, ("r", (), conclusion)) is not None, applies)


class DisjunctTest(unittest.TestCase):

    def test_example(self):
        statement = (1, (("full", 0),), ((("=", 0, ("cons", 1, 2)), ("list", 2)),))
        goal = ((0,), ((("list", 0), None),))
        expected = ((0,), ((("list", 0), None), (("=", 0, ("cons", 1, 2)), None), (("list", 2), None)))
        self.assertEqual(with_disjunct(goal, statement, 0, (0,)), expected)

    def test_terms(self):
        statement = (2, (("p", 0, 1),), ((("q", 1, 0),), (("t", 0), ("t", ("f", 1, 1)))))
        goal = ((0,), ((("p", 0, 1), (0, False)),))
        result = with_disjunct(goal, statement, 1, (("s", 1), 0))
        self.assertEqual(result, ((0,), goal[1] + ((("t", ("s", 1)), None), (("t", ("f", 0, 0)), None))))
        self.assertEqual(with_disjunct(goal, statement, 0, (A, B))[1][1:], ((("q", B, A), None),))

    def test_existential_variables_are_new(self):
        statement = (1, (), ((("q", 1, 0, 2),), (("q", 2, 0, 1), ("t", 0)),))
        goal = ((0, 1), ((("p", 2, 1), None),))
        self.assertEqual(with_disjunct(goal, statement, 0, (1,))[1][1][0], ("q", 3, 1, 4))
        self.assertEqual(with_disjunct(goal, statement, 0, (A,))[1][1][0], ("q", 3, A, 4))
        self.assertEqual(with_disjunct(goal, (0, (), ((("q", 0, 1),),)), 0, ())[1][1][0], ("q", 3, 4))
        self.assertEqual(with_disjunct(((), ()), (0, (), ((("q", 0, 1), ("p", 1)),)), 0, ())[1][1][0], ("p", 1))

    def test_existential_variables_that_the_goal_has(self):
        """The existential variables are numbered behind the universal ones, as those of the goal may be."""
        statement = (1, (), ((("q", 0, 1, 2),),))
        goal = ((0, 1, 2), ())
        self.assertEqual(with_disjunct(goal, statement, 0, (("f", 2, 1),)),
                         ((0, 1, 2), ((("q", ("f", 2, 1), 3, 4), None),)))

    def test_bounds_stay_and_new_ones_are_none(self):
        self.assertEqual(bounds_of(with_disjunct(GOAL, RIGHT[1], 0, (0,))), ((0, False), (0, True), None))

    def test_number_of_hypotheses(self):
        statement = (0, (), (4 * (P,),))
        goal = ((), 26 * ((Q, None),))
        self.assertEqual(len(with_disjunct(goal, statement, 0, ())[1]), 30)
        with self.assertRaises(TooLarge):
            with_disjunct(((), 27 * ((Q, None),)), statement, 0, ())

    def test_sizes(self):
        statement = (1, (), ((P, ("q", 0, 0, A)),))
        self.assertTrue(is_valid_statement(statement))
        self.assertEqual(with_disjunct(((), ()), statement, 0, (broad(29),))[1][1][0], ("q", broad(29), broad(29), A))
        for count in (30, 60):
            with self.assertRaises(TooLarge):
                with_disjunct(((), ()), statement, 0, (broad(count),))

    def test_depths(self):
        statement = (1, (), ((P, ("q", nested(5, 0))),))
        with_disjunct(((), ()), statement, 0, (nested(5, Z),))
        with self.assertRaises(TooLarge):
            with_disjunct(((), ()), statement, 0, (nested(6, Z),))

    def test_sum_of_the_sizes(self):
        hypotheses = 7 * ((("p", broad(49)), None),)
        statement = (0, (), ((("q", broad(48)),),))
        self.assertEqual(len(with_disjunct(((A,), hypotheses), statement, 0, ())[1]), 8)
        with self.assertRaises(TooLarge):
            with_disjunct(((A, A), hypotheses), statement, 0, ())

    def test_large_terms_in_many_places(self):
        statement = (1, (), ((("q",) + 7 * (("f",) + 6 * (0,),),),))
        self.assertTrue(is_valid_statement(statement))
        with self.assertRaises(TooLarge):
            with_disjunct(((), ()), statement, 0, (broad(60),))


if __name__ == "__main__":
    unittest.main()
