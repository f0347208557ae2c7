"""Valid atoms and rules [25], [60], and rules that are determined or analytic [65]."""

import unittest

from openrules.rules import REFL, is_analytic, is_determined, is_valid_rule, numbered_rule
from openrules.statements import is_valid_statement
from samples import ADD_S, NATURALS, ONE, Z, broad, nested

GOOD_NAMES = ("p", "refl", "aZ09zA", "a" * 16, "zzzzzzzzzzzzzzzZ")
BAD_NAMES = ("", "=", "a" * 17, "P", "1p", "0", "p_q", "p q", " p", "p ", "p=", "p-", "_p", "(", "a.b", "~")


def row(*arguments):
    return ("p",) + arguments


class RuleTest(unittest.TestCase):

    def valid(self, rule):
        self.assertIs(is_valid_rule(rule), True, rule)

    def invalid(self, rule):
        self.assertIs(is_valid_rule(rule), False, rule)

    def test_examples(self):
        for rule in NATURALS:
            self.valid(rule)

    def test_refl(self):
        self.assertEqual(REFL, ("refl", (), ("=", 0, 0)))
        self.invalid(REFL)
        self.valid(("refl", (), ("p",)))

    def test_names_of_rules(self):
        for name in GOOD_NAMES:
            self.valid((name, (), ("p",)))
        for name in BAD_NAMES:
            self.invalid((name, (), ("p",)))

    def test_numbers_of_premises(self):
        self.valid(("r", 4 * (("p",),), ("q",)))
        self.invalid(("r", 5 * (("p",),), ("q",)))
        self.invalid(("r", 30 * (("p",),), ("q",)))

    def test_equations(self):
        self.valid(("r", (("=", 0, ("s", 1)),), ("p", 0, 1)))
        self.invalid(("r", (), ("=", 0, 1)))
        self.invalid(("r", (("p", 0, 1),), ("=", 0, 1)))

    def test_variables(self):
        last = ("p",) + tuple(range(8))
        self.valid(("r", (("p", 8, 9, 10, 11),), last))
        self.invalid(("r", (("p", 8, 9, 10, 11, 12),), last))
        self.valid(("r", (("p", 8, 9), ("p", 10, 11, 0)), last))
        self.invalid(("r", (("p", 8, 9, 10, 11), ("p", 12)), last))

    def test_variables_are_numbered_conclusion_first(self):
        self.valid(("r", (("p", 1, 0, 2), ("q", 3)), ("c", 0, 1)))
        self.invalid(("r", (("p", 0, 1),), ("c", 1)))
        self.valid(("r", (("p", 1, 0),), ("c", 0)))
        self.invalid(("r", (("p", 2), ("q", 1)), ("c", 0)))
        self.invalid(("r", (), ("c", 1)))
        self.invalid(("r", (), ("c", 1, 0)))
        self.invalid(("r", (("p", 3),), ("c", 0, 1)))
        self.invalid(("r", (("p", 999),), ("c", 0)))

    def test_numbered_rule(self):
        rule = ("path", (("edge", 3, 5), ("path", 5, 4)), ("path", 3, 4))
        self.assertEqual(numbered_rule(rule), ("path", (("edge", 0, 2), ("path", 2, 1)), ("path", 0, 1)))
        self.assertEqual(numbered_rule(("r", (("=", 65535, 7),), ("p", 7))), ("r", (("=", 1, 0),), ("p", 0)))
        for rule in NATURALS:
            self.assertEqual(numbered_rule(rule), rule)


class AtomTest(unittest.TestCase):
    """Each atom stands as a premise, as a conclusion and in statements."""

    def valid(self, atom):
        self.check(atom, True)

    def invalid(self, atom):
        self.check(atom, False)

    def check(self, atom, answer):
        self.assertIs(is_valid_rule(("r", (("q",), atom), ("q", 0))), answer, atom)
        self.assertIs(is_valid_rule(("r", (atom, ("q",)), ("q", 0))), answer, atom)
        if atom[0] != "=":
            self.assertIs(is_valid_rule(("r", (("q", 0),), atom)), answer, atom)
        self.assertIs(is_valid_statement((1, (("q", 0), atom), ())), answer, atom)
        self.assertIs(is_valid_statement((1, (), ((("q",),), (("q", 0), atom)))), answer, atom)

    def test_names(self):
        for name in GOOD_NAMES:
            for count in range(9):
                self.valid((name,) + count * (0,))
            self.valid(("p", (name,), ("s", (name, 0))))
        for name in BAD_NAMES:
            self.invalid((name,))
            self.invalid((name, 0))
            self.invalid((name, 0, 0, Z))
            if name != "=":
                self.invalid((name, 0, Z))
            self.invalid(("p", 0, (name,)))
            self.invalid(("p", ("s", (name, 0))))
            self.invalid(("=", 0, (name, 0)))

    def test_number_of_sides(self):
        self.valid(("=", 0, Z))
        self.valid(("=", Z, 0))
        self.invalid(("=",))
        self.invalid(("=", 0))
        self.invalid(("=", 0, 0, 0))
        self.invalid(("=", 0, Z, 0, Z))

    def test_equation_within_a_term(self):
        self.invalid(("p", ("=", 0, 0)))
        self.invalid(("p", ("s", ("=", 0, 0))))
        self.invalid(("=", 0, ("=", 0, 0)))
        self.invalid(("=", ("=", 0, 0), 0))
        self.invalid(("=", 0, ("s", ("=", 0, Z))))

    def test_number_of_arguments(self):
        self.valid(("p",) + 8 * (0,))
        self.invalid(("p",) + 9 * (0,))
        self.invalid(("p",) + 29 * (0,))
        self.valid(("p", ("f",) + 8 * (0,)))
        self.invalid(("p", ("f",) + 9 * (0,)))
        self.invalid(("p", Z, ("g", 0, ("f",) + 9 * (0,))))
        self.invalid(("=", ("f",) + 9 * (0,), 0))

    def test_size(self):
        self.valid(("p", 0, broad(58)))
        self.invalid(("p", 0, broad(59)))
        self.valid(("=", 0, broad(58)))
        self.invalid(("=", 0, broad(59)))
        self.valid(("p",) + 7 * (("f",) + 7 * (0,),) + (("f", 0, 0),))
        self.invalid(("p",) + 7 * (("f",) + 7 * (0,),) + (("f", 0, 0, 0),))
        self.invalid(("p", 0, broad(198)))

    def test_depth(self):
        self.valid(("p", nested(10, 0)))
        self.invalid(("p", nested(11, 0)))
        self.valid(("p", 0, nested(10, Z), Z))
        self.invalid(("p", 0, nested(11, Z), Z))
        self.valid(("=", 0, nested(10, 0)))
        self.invalid(("=", 0, nested(11, 0)))
        self.invalid(("p", nested(18, 0)))


class DeterminedTest(unittest.TestCase):

    def test_examples_of_the_document(self):
        shrinking = ("r", (("p", ("s", 0)),), ("p", 0))
        self.assertIs(is_determined(shrinking), True)
        self.assertIs(is_analytic(shrinking), False)
        transitive = ("t", (("p", 0, 2), ("p", 2, 1)), ("p", 0, 1))
        self.assertIs(is_determined(transitive), False)
        self.assertIs(is_analytic(transitive), False)
        self.assertIs(is_analytic(ADD_S), True)

    def test_without_premises(self):
        for rule in (("r", (), ("p", 0)), ("r", (), ("p",)), REFL):
            self.assertIs(is_determined(rule), True)
            self.assertIs(is_analytic(rule), True)

    def test_ground_arguments(self):
        self.assertIs(is_analytic(("r", (("p", ("s", ("s", Z))), ("q", Z)), ("p", 0))), True)
        self.assertIs(is_analytic(("r", (("p", ("s", ("f", Z, 0))),), ("p", 0))), False)
        self.assertIs(is_determined(("r", (("p", ONE),), ("q",))), True)

    def test_arguments_that_are_subterms(self):
        conclusion = ("p", ("f", ("s", 0), 1), 2)
        for argument in (("f", ("s", 0), 1), ("s", 0), 0, 1, 2):
            self.assertIs(is_analytic(("r", (("q", Z, argument),), conclusion)), True)
        for argument in (("s", 1), ("f", 0, 1), ("f", ("s", 0), 0), ("p", ("f", ("s", 0), 1), 2)):
            self.assertIs(is_analytic(("r", (("q", Z, argument),), conclusion)), False)
            self.assertIs(is_determined(("r", (("q", Z, argument),), conclusion)), True)

    def test_every_argument_of_every_premise_counts(self):
        self.assertIs(is_analytic(("r", (("p", 0), ("p", 0, ("s", 0))), ("p", 0))), False)
        self.assertIs(is_analytic(("r", (("p", ("s", 0)), ("p", 0)), ("p", 0))), False)
        self.assertIs(is_determined(("r", (("p", 0), ("p", 0, ("s", 1))), ("p", 0))), False)
        self.assertIs(is_determined(("r", (("p", ("s", 1)), ("p", 0)), ("p", 0))), False)

    def test_equations_as_premises(self):
        self.assertIs(is_analytic(("r", (("=", 0, Z),), ("p", 0))), True)
        self.assertIs(is_analytic(("r", (("=", ("s", 0), Z),), ("p", 0))), False)
        self.assertIs(is_determined(("r", (("=", 0, 1),), ("p", 0))), False)
        self.assertIs(is_analytic(("r", (("=", 0, 1),), ("p", 0))), False)

    def test_a_variable_of_the_conclusion_alone(self):
        self.assertIs(is_determined(("r", (("p", 0),), ("p", 0, 1))), True)
        self.assertIs(is_analytic(("r", (("p", 0),), ("p", 0, 1))), True)


if __name__ == "__main__":
    unittest.main()
