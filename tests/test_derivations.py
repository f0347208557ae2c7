"""Derivations [61] to [64]."""

import itertools
import unittest

from openrules.derivations import fact_of, height_of, rules_in
from samples import ADD_S, ADD_Z, NAT_Z, NATURALS, ONE, TWO, Z, broad, nested

SUM_ONE = ("addS", (Z, Z, Z), (("addZ", (Z,), ()),))
LEAF = ("leaf", (), ("t", 0))
PAIR = ("pair", (("t", 0), ("t", 0)), ("t", 0))
NEXT = ("next", (("t", 0),), ("t", 0))
TREES = (NEXT, LEAF, PAIR)


def natural(number):
    """The derivation of nat(s(..(z)..)) with `number` times s; its height is 1 more."""
    derivation = ("natZ", (), ())
    for count in range(number):
        derivation = ("natS", (nested(count, Z),), (derivation,))
    return derivation


def tree(count):
    """A derivation of t(z) with this number of rules, and a height as small as pairs allow."""
    if count == 1:
        return ("leaf", (Z,), ())
    if count == 2:
        return ("next", (Z,), (tree(1),))
    return ("pair", (Z,), (tree((count - 1) // 2), tree(count // 2)))


class FactTest(unittest.TestCase):

    def test_example(self):
        self.assertEqual(fact_of((ADD_S, NAT_Z, ADD_Z), SUM_ONE), ("add", ONE, Z, ONE))
        self.assertIsNone(fact_of((ADD_S, NAT_Z), SUM_ONE))

    def test_rules_in_any_order(self):
        for rules in itertools.permutations(NATURALS):
            self.assertEqual(fact_of(rules, SUM_ONE), ("add", ONE, Z, ONE))
            self.assertEqual(fact_of(rules, natural(2)), ("nat", TWO))

    def test_refl_is_always_there(self):
        self.assertEqual(fact_of((), ("refl", (TWO,), ())), ("=", TWO, TWO))
        self.assertEqual(fact_of(NATURALS, ("refl", (Z,), ())), ("=", Z, Z))
        for wrong in (("refl", (), ()), ("refl", (Z, Z), ()), ("refl", (0,), ()), ("refl", (Z,), (natural(0),))):
            self.assertIsNone(fact_of(NATURALS, wrong))

    def test_refl_within_a_derivation(self):
        rules = (("same", (("=", 0, ("s", 1)),), ("p", 0, 1)),)
        self.assertEqual(fact_of(rules, ("same", (ONE, Z), (("refl", (ONE,), ()),))), ("p", ONE, Z))
        self.assertIsNone(fact_of(rules, ("same", (ONE, ONE), (("refl", (ONE,), ()),))))

    def test_names_that_no_rule_has(self):
        for name in ("natQ", "", "=", "nat", "Natz"):
            self.assertIsNone(fact_of(NATURALS, (name, (), ())))
        self.assertIsNone(fact_of(NATURALS, ("natS", (Z,), (("natQ", (), ()),))))

    def test_number_of_terms(self):
        zero = ("addZ", (Z,), ())
        self.assertEqual(fact_of(NATURALS, ("addS", (Z, Z, Z), (zero,))), ("add", ONE, Z, ONE))
        self.assertIsNone(fact_of(NATURALS, ("addS", (Z, Z), (zero,))))
        self.assertIsNone(fact_of(NATURALS, ("addS", (Z, Z, Z, Z), (zero,))))
        self.assertIsNone(fact_of(NATURALS, ("addZ", (), ())))
        self.assertIsNone(fact_of(NATURALS, ("natZ", (Z,), ())))
        self.assertIsNone(fact_of(NATURALS, ("natZ", 30 * (Z,), ())))

    def test_variables_that_occur_in_premises_only(self):
        rules = (("path", (("edge", 0, 2), ("edge", 2, 1)), ("path", 0, 1)), ("edge", (), ("edge", 0, ("s", 0))))
        edges = (("edge", (Z,), ()), ("edge", (ONE,), ()))
        self.assertEqual(fact_of(rules, ("path", (Z, TWO, ONE), edges)), ("path", Z, TWO))
        self.assertIsNone(fact_of(rules, ("path", (Z, ONE, TWO), edges)))
        self.assertIsNone(fact_of(rules, ("path", (Z, TWO), edges)))

    def test_order_of_terms(self):
        rules = (("r", (), ("p", 0, ("f", 1), 2)),)
        self.assertEqual(fact_of(rules, ("r", (Z, ONE, TWO), ())), ("p", Z, ("f", ONE), TWO))

    def test_a_term_with_a_variable(self):
        self.assertIsNone(fact_of(NATURALS, ("addZ", (0,), ())))
        self.assertIsNone(fact_of(NATURALS, ("addZ", (("s", 0),), ())))
        self.assertIsNone(fact_of(NATURALS, ("addS", (Z, 1, 1), (("addZ", (1,), ()),))))
        self.assertIsNone(fact_of(NATURALS, ("natS", (("f", Z, 3),), (natural(0),))))

    def test_number_of_derivations(self):
        leaf = tree(1)
        self.assertEqual(fact_of(TREES, ("pair", (Z,), (leaf, leaf))), ("t", Z))
        for wrong in ((), (leaf,), (leaf, leaf, leaf), 30 * (leaf,)):
            self.assertIsNone(fact_of(TREES, ("pair", (Z,), wrong)))
        self.assertIsNone(fact_of(NATURALS, ("natZ", (), (natural(0),))))

    def test_order_of_derivations(self):
        rules = NATURALS + (("both", (("nat", 0), ("add", 0, 0, 0)), ("p", 0)),)
        zero, plus = natural(0), ("addZ", (Z,), ())
        self.assertEqual(fact_of(rules, ("both", (Z,), (zero, plus))), ("p", Z))
        self.assertIsNone(fact_of(rules, ("both", (Z,), (plus, zero))))
        self.assertIsNone(fact_of(rules, ("both", (Z,), (zero, zero))))

    def test_fact_of_a_derivation_is_the_premise(self):
        self.assertIsNone(fact_of(NATURALS, ("natS", (ONE,), (natural(0),))))
        self.assertEqual(fact_of(NATURALS, ("natS", (ONE,), (natural(1),))), ("nat", TWO))
        self.assertIsNone(fact_of(NATURALS, ("natS", (Z,), (("addZ", (Z,), ()),))))

    def test_a_fault_deep_inside(self):
        wrong = ("natS", (ONE,), (("natZ", (), ()),))
        for count in range(2, 20):
            wrong = ("natS", (nested(count, Z),), (wrong,))
        self.assertIsNone(fact_of(NATURALS, wrong))

    def test_same_name_with_other_numbers_of_arguments(self):
        rules = (("one", (), ("p", 0)), ("two", (("p", 0, 0),), ("q", 0)))
        self.assertIsNone(fact_of(rules, ("two", (Z,), (("one", (Z,), ()),))))

    def test_height_of_60(self):
        self.assertEqual(fact_of(NATURALS, natural(59)), ("nat", nested(59, Z)))

    def test_2000_rules(self):
        self.assertEqual(fact_of(TREES, tree(2000)), ("t", Z))
        self.assertIsNone(fact_of((LEAF, PAIR), tree(2000)))

    def test_large_terms(self):
        term = ("f", nested(38, Z), broad(160))
        self.assertEqual(fact_of(NATURALS, ("addZ", (term,), ())), ("add", Z, term, term))


class MeasureTest(unittest.TestCase):

    def test_height(self):
        self.assertEqual(height_of(SUM_ONE), 2)
        for number in (0, 1, 2, 59):
            self.assertEqual(height_of(natural(number)), number + 1)

    def test_height_is_the_greatest_of_all(self):
        low, high = tree(1), ("next", (Z,), (("next", (Z,), (tree(1),)),))
        self.assertEqual(height_of(("pair", (Z,), (low, high))), 4)
        self.assertEqual(height_of(("pair", (Z,), (high, low))), 4)
        self.assertEqual(height_of(("pair", (Z,), (low, high, low))), 4)

    def test_number_of_rules(self):
        self.assertEqual(rules_in(SUM_ONE), 2)
        for count in (1, 2, 3, 4, 57, 1999, 2000):
            self.assertEqual(rules_in(tree(count)), count)

    def test_a_derivation_that_occurs_several_times(self):
        shared = natural(2)
        self.assertEqual(rules_in(("pair", (Z,), (shared, shared))), 7)
        derivation = ("leaf", (Z,), ())
        for _ in range(9):
            derivation = ("pair", (Z,), (derivation, derivation))
        self.assertEqual(rules_in(derivation), 1023)
        self.assertEqual(height_of(derivation), 10)

    def test_need_not_be_by_any_rules(self):
        odd = ("", (0, ("f", 3)), (("=", (), ()), ("x", (Z,), (("", (), ()),))))
        self.assertEqual((height_of(odd), rules_in(odd)), (3, 4))


if __name__ == "__main__":
    unittest.main()
