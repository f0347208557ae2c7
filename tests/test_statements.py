"""Statements [80] to [85]."""

import itertools
import unittest

from openrules.errors import TooLarge
from openrules.rules import is_valid_rule
from openrules.statements import counterexample, is_valid_statement, numbered_statement
from openrules.statements import rule_of_statement, statement_of_rule, without_equation
from openrules.terms import substitute
from samples import ADD_S, NAT_S, NATURALS, ONE, TWO, Z, broad, nested

P = ("p",)
A, B, C = ("a",), ("b",), ("c",)


class ValidTest(unittest.TestCase):

    def valid(self, *statement):
        self.assertIs(is_valid_statement(statement), True, statement)

    def invalid(self, *statement):
        self.assertIs(is_valid_statement(statement), False, statement)

    def test_examples(self):
        self.valid(1, (("nat", 0),), ((("add", 0, Z, 0),),))
        self.valid(1, (("list", 0), ("full", 0)), ((("=", 0, ("cons", 1, 2)), ("list", 2)),))
        self.valid(1, (("list", 0),), ((("=", 0, ("nil",)),), (("full", 0),)))

    def test_without_premises_and_without_disjuncts(self):
        self.valid(0, (), ())
        self.valid(0, (P,), ())
        self.valid(0, (), ((P,),))
        self.valid(1, (("p", 0),), ())
        self.valid(1, (), ((("p", 0),),))

    def test_number_of_premises(self):
        self.valid(0, 4 * (P,), ())
        self.invalid(0, 5 * (P,), ())

    def test_number_of_disjuncts(self):
        self.valid(0, (), 4 * ((P,),))
        self.invalid(0, (), 5 * ((P,),))

    def test_number_of_atoms_in_a_disjunct(self):
        self.valid(0, (), (4 * (P,), (P,)))
        self.invalid(0, (), ((P,), 5 * (P,)))
        self.invalid(0, (), ((),))
        self.invalid(0, (), ((P,), ()))

    def test_atoms(self):
        for atom in (("P",), ("=",), ("p", ("",)), ("p", broad(60)), ("p", nested(11, Z)), ("p",) + 9 * (Z,)):
            self.invalid(0, (P, atom), ())
            self.invalid(0, (), ((P,), (P, atom)))

    def test_equations(self):
        self.valid(2, (("=", 0, 1),), ((("=", 1, 0),),))
        self.valid(0, (), ((("=", 0, 1),),))

    def test_number_of_universal_variables(self):
        eight, more = ("p",) + tuple(range(8)), ("p", 8, 9, 10, 11)
        self.valid(12, (eight, more), ())
        self.invalid(13, (eight, more, ("p", 12)), ())
        self.valid(12, (eight,), ((more,),))
        self.invalid(13, (eight,), ((more + (12,),),))

    def test_number_of_existential_variables(self):
        self.valid(1, (("p", 0),), ((("p", 1, 2), ("q", 3, 4, 0)),))
        self.invalid(1, (("p", 0),), ((("p", 1, 2), ("q", 3, 4, 5)),))
        self.valid(12, (("p",) + tuple(range(8)), ("p", 8, 9, 10, 11)), (4 * (("q", 12, 13, 14, 15),), (("p", 12),)))
        self.invalid(0, (), ((("q", 0, 1, 2, 3, 4),),))

    def test_existential_variables_in_premises(self):
        self.invalid(1, (("p", 0, 1),), ())
        self.invalid(0, (("p", 0),), ((("p", 0),),))
        self.invalid(1, (("p", 0), ("q", 1)), ((("q", 1),),))

    def test_each_universal_variable_occurs(self):
        self.invalid(1, (P,), ())
        self.invalid(2, (("p", 0),), ())
        self.invalid(3, (("p", 0, 2),), ())
        self.invalid(999, (("p", 0),), ())
        self.invalid(2, (("p", 0),), ((("p", 2),),))

    def test_order_of_universal_variables(self):
        self.valid(3, (("p", 0, 1), ("p", 1, 2)), ())
        self.invalid(2, (("p", 1, 0),), ())
        self.invalid(2, (("p", 1), ("p", 0)), ())
        self.valid(3, (("p", 0),), ((("p", 1),), (("p", 2, 1),)))
        self.invalid(3, (("p", 0),), ((("p", 2),), (("p", 1, 2),)))
        self.invalid(2, (("p", 1),), ((("p", 0),),))

    def test_existential_variables_are_numbered_in_each_disjunct(self):
        self.valid(1, (("p", 0),), ((("p", 1, 2),), (("q", 0),), (("q", 1),), (("p", 1), ("p", 2))))
        self.invalid(1, (("p", 0),), ((("p", 2, 1),),))
        self.invalid(1, (("p", 0),), ((("p", 2),),))
        self.invalid(1, (("p", 0),), ((("p", 1),), (("p", 2),)))
        self.invalid(1, (("p", 0),), ((("p", 1), ("p", 3)),))
        self.invalid(1, (("p", 0),), ((("p", 999),),))
        self.invalid(0, (), ((("p", 1),),))


class NumberedStatementTest(unittest.TestCase):

    def test_example(self):
        premises = (("p", 23), ("q", 23, 24))
        first = ((21, 22), (("r", 22, 21), ("r", 24, 22)))
        statement = numbered_statement(premises, (first, ((21,), (("r", 21, 25),)), ((), (("p", 24),))))
        disjuncts = ((("r", 3, 4), ("r", 1, 3)), (("r", 3, 2),), (("p", 1),))
        self.assertEqual(statement, (3, (("p", 0), ("q", 0, 1)), disjuncts))

    def test_nothing(self):
        self.assertEqual(numbered_statement((), ()), (0, (), ()))
        self.assertEqual(numbered_statement((P,), (((7,), (P,)),)), (0, (P,), ((P,),)))

    def test_existential_here_and_universal_elsewhere(self):
        disjuncts = (((5,), (("p", 5),)), ((), (("p", 5),)))
        self.assertEqual(numbered_statement((), disjuncts), (1, (), ((("p", 1),), (("p", 0),))))
        self.assertEqual(numbered_statement((), disjuncts[::-1]), (1, (), ((("p", 0),), (("p", 1),))))
        expected = (1, (("q", 0),), ((("p", 1),), (("p", 0),)))
        self.assertEqual(numbered_statement((("q", 5),), disjuncts), expected)

    def test_existential_in_a_premise_is_universal_there(self):
        statement = numbered_statement((("p", 3, 4),), (((3, 4), (("q", 4, 3),)), ((4,), (("q", 4, 3),))))
        self.assertEqual(statement, (2, (("p", 0, 1),), ((("q", 2, 3),), (("q", 2, 0),))))

    def test_a_universal_variable_is_the_same_everywhere(self):
        disjuncts = (((), (("q", 8, 2),)), ((1,), (("r", 1, 2), ("r", 9, 8))))
        expected = (3, (("p", 0),), ((("q", 0, 1),), (("r", 3, 1), ("r", 2, 0))))
        self.assertEqual(numbered_statement((("p", 8),), disjuncts), expected)

    def test_order_repetitions_and_unused_existentials(self):
        atoms = (("p", 4, 6), ("q", 9, 5))
        expected = (1, (), ((("p", 1, 2), ("q", 0, 3)),))
        for existentials in ((4, 5, 6), (6, 5, 4), (5, 4, 5, 6, 6), (0, 65535, 6, 5, 4, 1)):
            self.assertEqual(numbered_statement((), ((existentials, atoms),)), expected)

    def test_more_variables_than_valid(self):
        premises = (("p",) + tuple(range(20, 28)), ("p",) + tuple(range(40, 48)))
        universals, atoms, disjuncts = numbered_statement(premises, (((1, 2, 3, 4, 5), (("q", 5, 4, 3, 2, 1),)),))
        self.assertEqual((universals, atoms[1]), (16, ("p",) + tuple(range(8, 16))))
        self.assertEqual(disjuncts, ((("q", 16, 17, 18, 19, 20),),))

    def test_equations_and_the_last_variable(self):
        statement = numbered_statement((("=", 65535, ("s", 0)),), (((65535,), (("=", 65535, 0),)),))
        self.assertEqual(statement, (2, (("=", 0, ("s", 1)),), ((("=", 2, 1),),)))


class RuleStatementTest(unittest.TestCase):

    def test_a_rule_is_a_statement(self):
        self.assertEqual(statement_of_rule(NAT_S), (1, (("nat", 0),), ((("nat", ("s", 0)),),)))
        expected = (3, (("add", 0, 1, 2),), ((("add", ("s", 0), 1, ("s", 2)),),))
        self.assertEqual(statement_of_rule(ADD_S), expected)

    def test_numbered_as_a_statement(self):
        rule = ("r", (("p", 2), ("p", 1)), ("q", 0, 1))
        self.assertEqual(statement_of_rule(rule), (3, (("p", 0), ("p", 1)), ((("q", 2, 1),),)))

    def test_and_back(self):
        rules = NATURALS + (("r", (("p", 2), ("=", 1, 3)), ("q", 0, 1)), ("x", 4 * (P,), ("q",)))
        for rule in rules:
            statement = statement_of_rule(rule)
            self.assertTrue(is_valid_statement(statement))
            self.assertEqual(rule_of_statement(rule[0], statement), rule)

    def test_a_statement_is_a_rule(self):
        statement = (3, (("p", 0), ("p", 1)), ((("q", 2, 1),),))
        self.assertEqual(rule_of_statement("r", statement), ("r", (("p", 2), ("p", 1)), ("q", 0, 1)))
        self.assertTrue(is_valid_rule(rule_of_statement("refl", statement)))
        self.assertEqual(rule_of_statement("r", (0, (), ((P,),))), ("r", (), P))

    def test_equations_as_premises(self):
        statement = (2, (("=", 0, 1),), ((("q", 1, 0),),))
        self.assertEqual(rule_of_statement("r", statement), ("r", (("=", 1, 0),), ("q", 0, 1)))

    def test_no_rule(self):
        for statement in (
            (1, (("p", 0),), ()),
            (1, (("p", 0),), ((("q", 0),), (("q", 0),))),
            (1, (("p", 0),), ((("q", 0), ("r", 0)),)),
            (2, (("p", 0, 1),), ((("=", 0, 1),),)),
            (1, (("p", 0),), ((("q", 1),),)),
            (0, (), ((("q", 0),),)),
        ):
            self.assertTrue(is_valid_statement(statement))
            self.assertIsNone(rule_of_statement("r", statement), statement)


class WithoutEquationTest(unittest.TestCase):

    def test_example(self):
        statement = (2, (("=", 0, ("s", 1)), ("nat", 0)), ((("nat", 1),),))
        self.assertEqual(without_equation(statement, 0), (1, (("nat", ("s", 0)),), ((("nat", 0),),)))

    def test_sides_that_cannot_be_unified(self):
        for left, right in ((Z, ONE), (("s", 0), 0), (("f", 0, 0), ("f", Z, ONE)), (("f", 0), ("f", 0, 0))):
            statement = (1, (("p", 0), ("=", left, right)), ())
            self.assertIsNone(without_equation(statement, 1))

    def test_sides_that_are_equal_already(self):
        statement = (2, (("p", 0), ("=", ("s", 1), ("s", 1))), ((("q", 1, 0, 2),),))
        self.assertEqual(without_equation(statement, 1), (2, (("p", 0),), ((("q", 1, 0, 2),),)))
        self.assertEqual(without_equation((0, (("=", Z, Z),), ((P,),)), 0), (0, (), ((P,),)))

    def test_variables_that_are_left_out(self):
        self.assertEqual(without_equation((2, (("=", 0, 1),), ()), 0), (0, (), ()))
        statement = (3, (("=", 0, ("f", 1, 2)),), ((("p", 2, 3),),))
        self.assertEqual(without_equation(statement, 0), (1, (), ((("p", 0, 1),),)))

    def test_two_variables(self):
        for left, right in ((0, 1), (1, 0)):
            statement = numbered_statement((("p", 0, 1), ("=", left, right), ("p", 1, 0)), ())
            self.assertEqual(without_equation(statement, 1), (1, (("p", 0, 0), ("p", 0, 0)), ()))

    def test_only_this_premise_is_left_out(self):
        statement = (3, (("=", 0, 1), ("=", 1, 2), ("p", 2)), ())
        self.assertEqual(without_equation(statement, 0), (2, (("=", 0, 1), ("p", 1)), ()))
        self.assertEqual(without_equation(statement, 1), (2, (("=", 0, 1), ("p", 1)), ()))

    def test_statement_is_numbered(self):
        statement = (3, (("=", 0, ("f", 1, 2)), ("q", 2, 1)), ((("p", 0),),))
        self.assertEqual(without_equation(statement, 0), (2, (("q", 0, 1),), ((("p", ("f", 1, 0)),),)))

    def test_existential_variables_stay_apart(self):
        disjuncts = ((("q", 2, 3), ("q", 0, 3)), (("r", 2, 1),))
        statement = (2, (("p", 0, 1), ("=", 0, ("s", 1))), disjuncts)
        self.assertTrue(is_valid_statement(statement))
        expected = (1, (("p", ("s", 0), 0),), ((("q", 1, 2), ("q", ("s", 0), 2)), (("r", 1, 0),)))
        self.assertEqual(without_equation(statement, 1), expected)

    def test_a_variable_of_the_equation_alone_that_is_existential_elsewhere(self):
        statement = (2, (("=", 0, ("f", 1, 1)), ("p", 0)), ((("p", 2),), (("p", 0, 2, 3),)))
        expected = (1, (("p", ("f", 0, 0)),), ((("p", 1),), (("p", ("f", 0, 0), 1, 2),)))
        self.assertEqual(without_equation(statement, 0), expected)

    def test_size_of_the_result(self):
        large = ("p", 0, 0)
        for premises, disjuncts in (((large,), ()), ((), ((P,), (P, large)))):
            fits = (1, (("=", 0, broad(29)), P) + premises, disjuncts)
            self.assertEqual(without_equation(fits, 0)[0], 0)
            more = (1, (("=", 0, broad(30)), P) + premises, disjuncts)
            with self.assertRaises(TooLarge):
                without_equation(more, 0)

    def test_size_of_exactly_60(self):
        statement = (1, (("=", 0, broad(29)), ("p", 0, ("s", 0))), ())
        self.assertEqual(without_equation(statement, 0), (0, (("p", broad(29), ("s", broad(29))),), ()))
        with self.assertRaises(TooLarge):
            without_equation((1, (("=", 0, broad(29)), ("p", 0, ("s", ("s", 0)))), ()), 0)

    def test_variables_that_remain_count(self):
        equation = ("=", 0, broad(29, 1))
        for leaf in (1, 2):
            fits = numbered_statement((equation, ("p", 0, 0, leaf)), ())
            self.assertEqual(without_equation(fits, 0)[1][0][1:3], 2 * (broad(29, 0),))
            more = numbered_statement((equation, ("p", 0, 0, leaf, leaf)), ())
            with self.assertRaises(TooLarge):
                without_equation(more, 0)

    def test_atoms_that_stay_as_they_are(self):
        untouched = (("p", nested(10, 2)), ("p", broad(59, 2)))
        statement = numbered_statement((("=", 0, ONE),) + untouched, ())
        self.assertEqual(without_equation(statement, 0), numbered_statement(untouched, ()))

    def test_depth_of_the_result(self):
        statement = (1, (("=", 0, nested(5, Z)), ("p", nested(5, 0))), ())
        self.assertEqual(without_equation(statement, 0), (0, (("p", nested(10, Z)),), ()))
        statement = numbered_statement((("=", 0, nested(5, 1)), ("p", nested(5, 0))), ())
        self.assertEqual(without_equation(statement, 0), (1, (("p", nested(10, 0)),), ()))
        with self.assertRaises(TooLarge):
            without_equation((1, (("=", 0, nested(5, Z)), ("p", nested(6, 0))), ()), 0)
        with self.assertRaises(TooLarge):
            without_equation((1, (("=", 0, nested(5, Z)),), ((P, ("p", nested(6, 0))),)), 0)

    def growing_equation(self, last, other):
        """An equation that replaces each of the variables 0 to 7 by four occurrences of the next one.

        It holds only if the two last terms can be unified.
        """
        left, right = (), ()
        for number in range(0, 8, 2):
            left = left + (number, ("g",) + 4 * (number + 2,))
            right = right + (("g",) + 4 * (number + 1,), number + 1)
        return ("=", ("h", ("c",) + left, last), ("h", ("c",) + right, other))

    def test_millions_of_names(self):
        equation = self.growing_equation(8, 8)
        for last in (("p",) + 8 * (("g",) + 6 * (0,),), ("p", 0)):
            statement = numbered_statement((equation, last), ())
            self.assertTrue(is_valid_statement(statement))
            with self.assertRaises(TooLarge):
                without_equation(statement, 0)
            statement = numbered_statement((equation,), (((), (P, last)),))
            with self.assertRaises(TooLarge):
                without_equation(statement, 0)

    def test_millions_of_names_that_do_not_remain(self):
        statement = numbered_statement((self.growing_equation(Z, Z), ("p", 8)), ())
        self.assertEqual(without_equation(statement, 0), (1, (("p", 0),), ()))

    def test_millions_of_names_but_no_result(self):
        for last, other in ((Z, ONE), (0, ("s", 8)), (8, ("s", 0))):
            statement = numbered_statement((self.growing_equation(last, other), ("p", 0)), ())
            self.assertTrue(is_valid_statement(statement))
            self.assertIsNone(without_equation(statement, 0))


def slow_counterexample(statement, facts, terms):
    """The first counterexample, straight from its definition."""
    universals, premises, disjuncts = statement
    for chosen in itertools.product(terms, repeat=universals):
        def holds(atoms, rest=()):
            return all(substitute(atom, tuple(enumerate(chosen + rest))) in facts for atom in atoms)
        if holds(premises):
            rests = list(itertools.product(terms, repeat=4)) or [()]
            if not any(holds(disjunct, rest) for disjunct in disjuncts for rest in rests):
                return chosen
    return None


class CounterexampleTest(unittest.TestCase):

    def test_example(self):
        facts = (("nat", Z), ("nat", ONE), ("add", Z, Z, Z))
        statement = (1, (("nat", 0),), ((("add", 1, 1, 0),),))
        self.assertEqual(counterexample(statement, facts, (Z, ONE)), (ONE,))
        self.assertIsNone(counterexample(statement, facts, (Z,)))
        self.assertIsNone(counterexample(statement, facts + (("add", Z, Z, ONE),), (Z, ONE)))

    def test_first_in_the_order_of_the_terms(self):
        statement = (2, (), ((("p", 0, 1),),))
        facts = (("p", A, A), ("p", B, A))
        self.assertEqual(counterexample(statement, facts, (A, B)), (A, B))
        self.assertEqual(counterexample(statement, facts, (B, A)), (B, B))
        self.assertEqual(counterexample(statement, facts + (("p", A, B),), (A, B)), (B, B))
        self.assertEqual(counterexample(statement, (("p", B, C), ("p", B, B)), (B, C, A)), (B, A))

    def test_the_term_for_the_first_variable_is_compared_first(self):
        statement = (2, (("p", 0, 1),), ())
        facts = (("p", A, C), ("p", B, A))
        self.assertEqual(counterexample(statement, facts, (A, B, C)), (A, C))
        self.assertEqual(counterexample(statement, facts, (C, B, A)), (B, A))

    def test_no_universal_variables(self):
        self.assertEqual(counterexample((0, (), ()), (), ()), ())
        self.assertIsNone(counterexample((0, (P,), ()), (), (A,)))
        self.assertEqual(counterexample((0, (P,), ()), (P,), (A,)), ())
        self.assertEqual(counterexample((0, (), ((P,),)), (), (A,)), ())
        self.assertIsNone(counterexample((0, (), ((P,),)), (P,), (A,)))
        self.assertIsNone(counterexample((0, (), ((("q", 0),),)), (("q", B),), (A, B)))
        self.assertEqual(counterexample((0, (), ((("q", 0),),)), (("q", B),), (A,)), ())

    def test_no_terms(self):
        self.assertIsNone(counterexample((1, (), ((("q", 0),),)), (), ()))
        self.assertEqual(counterexample((0, (), ((("q", 0),),)), (("q", Z),), ()), ())
        self.assertIsNone(counterexample((0, (), ((P,), (("q", 0),))), (P,), ()))

    def test_all_atoms_of_one_disjunct(self):
        statement = (1, (), ((("p", 0), ("q", 0)), (("r", 0),)))
        self.assertEqual(counterexample(statement, (("p", A),), (A,)), (A,))
        self.assertEqual(counterexample(statement, (("q", A),), (A,)), (A,))
        self.assertIsNone(counterexample(statement, (("p", A), ("q", A)), (A,)))
        self.assertIsNone(counterexample(statement, (("r", A),), (A,)))

    def test_all_premises(self):
        statement = (1, (("p", 0), ("q", 0)), ())
        self.assertIsNone(counterexample(statement, (("p", A), ("q", B)), (A, B)))
        self.assertEqual(counterexample(statement, (("p", A), ("q", B), ("q", A)), (A, B)), (A,))

    def test_existential_variables_stand_for_the_same_term(self):
        statement = (1, (), ((("p", 1, 0), ("q", 1)),))
        facts = (("p", A, A), ("q", B), ("p", C, B), ("q", C))
        self.assertEqual(counterexample(statement, facts, (A, B, C)), (A,))
        self.assertEqual(counterexample(statement, facts + (("q", A),), (A, B, C)), (C,))

    def test_existential_variables_stand_for_given_terms(self):
        statement = (0, (), ((("p", 0),),))
        self.assertEqual(counterexample(statement, (("p", ("s", A)),), (A,)), ())
        self.assertIsNone(counterexample((0, (), ((("p", ("s", 0)),),)), (("p", ("s", A)),), (A,)))

    def test_each_disjunct_has_its_own_existential_variables(self):
        statement = (1, (), ((("p", 0, 1),), (("q", 0, 1, 2),)))
        facts = (("p", A, B), ("q", B, A, C))
        self.assertEqual(counterexample(statement, facts, (A, B, C)), (C,))
        self.assertIsNone(counterexample(statement, facts + (("p", C, C),), (A, B, C)))

    def test_repeated_facts(self):
        statement = (1, (("p", 0),), ())
        self.assertEqual(counterexample(statement, 400 * (("p", B),), (A, B)), (B,))

    def test_order_of_the_facts_does_not_matter(self):
        facts = (("p", B), ("p", A), ("q", A))
        for order in itertools.permutations(facts):
            self.assertEqual(counterexample((1, (("p", 0),), ((("q", 0),),)), order, (A, B)), (B,))

    def test_equations_only_if_they_are_given(self):
        statement = (1, (), ((("=", 0, 0),),))
        self.assertEqual(counterexample(statement, (), (A, B)), (A,))
        self.assertEqual(counterexample(statement, (("=", A, A),), (A, B)), (B,))
        self.assertIsNone(counterexample(statement, (("=", A, A), ("=", B, B)), (A, B)))
        self.assertIsNone(counterexample((2, (("=", 0, 1),), ()), (), (A, B)))
        self.assertEqual(counterexample((2, (("=", 0, 1),), ()), (("=", A, B),), (A, B)), (A, B))

    def test_large_facts(self):
        large = ("p", broad(900), nested(58, Z))
        facts = tuple(large + (nested(count, Z),) for count in range(40))
        statement = (1, (("q", 0),), ())
        self.assertEqual(counterexample(statement, facts + (("q", TWO),), (Z, ONE, TWO)), (TWO,))

    def test_as_defined(self):
        atoms = [("p", 0), ("p", 1), ("q", 0, 1), ("q", 1, 2), ("q", 2, 0)]
        facts = (("p", A), ("p", C), ("q", A, B), ("q", B, A), ("q", C, C))
        for first, second, third in itertools.product(atoms, repeat=3):
            for universals in range(3):
                existential = tuple(range(universals, 3))
                pairs = ((existential, (second,)), (existential, (third, second)))
                statement = numbered_statement((first,), pairs)
                if statement[0] < 4:
                    expected = slow_counterexample(statement, facts, (A, B, C))
                    self.assertEqual(counterexample(statement, facts, (A, B, C)), expected, statement)


class CounterexampleBoundTest(unittest.TestCase):

    def terms(self, count):
        return tuple(nested(number, Z) for number in range(count))

    def statement(self, universals, *counts):
        """A statement with these numbers of universal variables, and of existential ones in its disjuncts."""
        disjuncts = tuple((("q",) + tuple(range(universals, universals + count)),) for count in counts)
        return (universals, (("p",) + tuple(range(universals)),), disjuncts)

    def fits(self, statement, count):
        self.assertTrue(is_valid_statement(statement))
        self.assertIsNone(counterexample(statement, (), self.terms(count)))

    def refused(self, statement, count):
        self.assertTrue(is_valid_statement(statement))
        with self.assertRaises(TooLarge):
            counterexample(statement, (), self.terms(count))

    def test_exactly_1000_and_more(self):
        for statement in (self.statement(3), self.statement(2, 1), self.statement(0, 3), self.statement(1, 0, 2, 1)):
            self.fits(statement, 10)
            self.refused(statement, 11)

    def test_powers(self):
        self.fits(self.statement(3), 8)
        self.refused(self.statement(4), 8)
        self.fits(self.statement(4), 5)
        self.refused(self.statement(5), 4)
        self.fits(self.statement(5, 4), 2)
        self.refused(self.statement(6, 4), 2)

    def test_the_greatest_number_of_existential_variables(self):
        self.fits(self.statement(1, 2, 2, 2), 8)
        self.refused(self.statement(1, 2, 3, 2), 8)
        self.refused(self.statement(1, 3, 2), 8)

    def test_one_term_and_none(self):
        self.fits(self.statement(8, 4), 1)
        self.fits(self.statement(8, 4), 0)
        self.fits(self.statement(0, 4), 0)

    def test_raised_before_anything_is_looked_at(self):
        with self.assertRaises(TooLarge):
            counterexample((4, (("p", 0, 1, 2, 3),), ()), (("p", Z, Z, Z, Z),), self.terms(6))


if __name__ == "__main__":
    unittest.main()
