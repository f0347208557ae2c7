"""Facts within terms [70] to [72]."""

import itertools
import unittest

from openrules.derivations import fact_of, height_of
from openrules.errors import TooLarge
from openrules.facts import derivation_within, facts_within
from openrules.rules import REFL
from openrules.terms import substitute, variables_of
from samples import NAT_S, NAT_Z, NATURALS, ONE, TWO, Z, nested

A, B, C = ("a",), ("b",), ("c",)
EDGES = (("e1", (), ("edge", A, B)), ("e2", (), ("edge", B, C)), ("e3", (), ("edge", C, A)))
STEP = ("step", (("edge", 0, 1),), ("path", 0, 1))
JOIN = ("join", (("path", 0, 2), ("path", 2, 1)), ("path", 0, 1))
PATHS = EDGES + (STEP, JOIN)
AT_0 = (("=", ONE, ONE), ("=", Z, Z), ("add", Z, ONE, ONE), ("add", Z, Z, Z), ("nat", Z))
AT_2 = (("nat", ONE), ("add", ONE, Z, ONE), ("add", ONE, ONE, TWO))


def slow_facts(rules, terms, height):
    """F(height) as a set, straight from its definition."""
    if height == 0:
        return set()
    before = slow_facts(rules, terms, height - 1)
    found = set()
    for _, premises, conclusion in rules + (REFL,):
        variables = variables_of((conclusion,) + premises)
        for chosen in itertools.product(terms, repeat=len(variables)):
            pairs = tuple(zip(variables, chosen))
            if all(substitute(premise, pairs) in before for premise in premises):
                found.add(substitute(conclusion, pairs))
    return found


def terms_in(derivation):
    return list(derivation[1]) + [term for inner in derivation[2] for term in terms_in(inner)]


class FactsWithinTest(unittest.TestCase):

    def test_example_of_the_document(self):
        self.assertEqual(facts_within(NATURALS, (Z, ONE), 1), AT_0)
        self.assertEqual(facts_within(NATURALS, (Z, ONE), 2), tuple(sorted(AT_0 + AT_2)))
        self.assertEqual(len(facts_within(NATURALS, (Z, ONE), 2)), 8)

    def test_example_of_the_interface(self):
        self.assertEqual(facts_within((NAT_Z, NAT_S), (Z,), 2), (("=", Z, Z), ("nat", ONE), ("nat", Z)))

    def test_each_height(self):
        terms = tuple(nested(count, Z) for count in range(5))
        for height in range(7):
            facts = facts_within((NAT_Z, NAT_S), terms, height)
            numbers = [fact for fact in facts if fact[0] == "nat"]
            self.assertEqual(sorted(numbers), sorted([("nat", nested(count, Z)) for count in range(min(height, 6))]))
            self.assertEqual(len(facts), len(numbers) + (5 if height else 0))

    def test_height_0(self):
        self.assertEqual(facts_within(NATURALS, (Z, ONE), 0), ())
        self.assertEqual(facts_within((), (), 0), ())

    def test_as_defined(self):
        for rules, terms in ((NATURALS, (Z, ONE, TWO)), (PATHS, (A, B, C)), (PATHS, (C, A)), ((STEP, JOIN), (A,))):
            for height in range(7):
                facts = facts_within(rules, terms, height)
                self.assertEqual(list(facts), sorted(slow_facts(rules, terms, height)))
                self.assertEqual(facts_within(rules[::-1], terms[::-1], height), facts)

    def test_premises_come_from_the_height_before(self):
        rules = (("a1", (), ("p",)), ("a2", (("p",),), ("q",)), ("a3", (("q",),), ("r",)))
        for order in itertools.permutations(rules):
            self.assertEqual(facts_within(order, (), 1), (("p",),))
            self.assertEqual(facts_within(order, (), 2), (("p",), ("q",)))
            self.assertEqual(facts_within(order, (), 3), (("p",), ("q",), ("r",)))

    def test_terms_of_derivations_are_given_ones_but_those_of_facts_need_not_be(self):
        self.assertEqual(facts_within((NAT_Z, NAT_S), (), 6), (("nat", Z),))
        self.assertEqual(facts_within((NAT_Z, NAT_S), (ONE,), 6), (("=", ONE, ONE), ("nat", Z)))

    def test_a_proper_beginning_comes_first(self):
        rules = (("a", (), ("p", 0, 1)), ("b", (), ("p",)), ("c", (), ("p", 0)))
        expected = (("=", Z, Z), ("p",), ("p", Z), ("p", Z, Z))
        self.assertEqual(facts_within(rules, (Z,), 1), expected)
        inside = (("a", (), ("p", ("f", Z), Z)), ("b", (), ("p", ("f",), ONE)), ("c", (), ("p", ("f", Z))))
        expected = (("p", ("f",), ONE), ("p", ("f", Z)), ("p", ("f", Z), Z))
        self.assertEqual(facts_within(inside, (), 1), expected)

    def test_strings_are_compared_by_ascii_code(self):
        names = ("pa", "pZ", "p9", "p", "pA", "q", "o", "paa")
        rules = tuple((f"r{place}", (), (name,)) for place, name in enumerate(names))
        expected = ("o", "p", "p9", "pA", "pZ", "pa", "paa", "q")
        self.assertEqual(facts_within(rules, (), 1), tuple((name,) for name in expected))

    def test_each_once(self):
        rules = (("a", (), ("p", 0)), ("b", (), ("p", Z)), ("c", (("p", 0),), ("p", 0)), ("d", (), ("p", Z)))
        self.assertEqual(facts_within(rules, (Z,), 3), (("=", Z, Z), ("p", Z)))

    def test_no_terms(self):
        self.assertEqual(facts_within((), (), 6), ())
        rules = (("a", (), ("p",)), ("b", (), ("q", 0)), ("c", (("p",),), ("r", Z)), ("d", (("p", 0),), ("s",)))
        self.assertEqual(facts_within(rules, (), 2), (("p",), ("r", Z)))

    def test_equations_as_premises(self):
        rules = (("same", (("=", 0, 1),), ("p", 0, 1)),)
        self.assertEqual(facts_within(rules, (A, B), 1), (("=", A, A), ("=", B, B)))
        self.assertEqual(facts_within(rules, (A, B), 2), (("=", A, A), ("=", B, B), ("p", A, A), ("p", B, B)))


class BoundTest(unittest.TestCase):

    def terms(self, count):
        return tuple(nested(number, Z) for number in range(count))

    def rules(self, *counts):
        """Rules with these numbers of variables."""
        return tuple((f"r{place}", (), ("p",) + tuple(range(count))) for place, count in enumerate(counts))

    def both(self, rules, terms):
        for height in (0, 1, 6):
            facts_within(rules, terms, height)
            derivation_within(rules, terms, height, ("nat", Z))

    def refused(self, rules, terms):
        for height in (0, 1, 6):
            with self.assertRaises(TooLarge):
                facts_within(rules, terms, height)
            with self.assertRaises(TooLarge):
                derivation_within(rules, terms, height, ("nat", Z))

    def test_exactly_600_and_one_more(self):
        counts = (3,) + 10 * (1,)
        self.both(self.rules(*counts), self.terms(8))
        self.refused(self.rules(*counts, 0), self.terms(8))

    def test_refl_counts(self):
        counts = 9 * (2,) + (1, 1)
        self.both(self.rules(*counts), self.terms(8))
        self.refused(self.rules(*counts, 0), self.terms(8))
        self.refused(self.rules(*counts, 1), self.terms(8))

    def test_variables_of_premises_count(self):
        rule = ("r", (("p", 1, 2), ("q", 3)), ("p", 0))
        self.refused((rule,), self.terms(5))
        self.both((rule,), self.terms(4))

    def test_one_term(self):
        self.both(self.rules(8, 8, 8), self.terms(1))
        twelve = ("r", (("q", 8, 9, 10, 11),), ("p",) + tuple(range(8)))
        self.both((twelve,), self.terms(1))
        self.refused((twelve,), self.terms(2))

    def test_no_terms(self):
        self.both(self.rules(*(24 * (0,))), ())
        self.both(self.rules(8, 8), ())


class DerivationWithinTest(unittest.TestCase):

    def check(self, rules, terms, height, fact, least):
        """The fact has a derivation of this least height within the terms, or none if it is None."""
        derivation = derivation_within(rules, terms, height, fact)
        if least is None or least > height:
            self.assertIsNone(derivation)
            return
        self.assertEqual(fact_of(rules, derivation), fact)
        self.assertEqual(height_of(derivation), least)
        for term in terms_in(derivation):
            self.assertIn(term, terms)

    def test_example(self):
        derivation = derivation_within((NAT_Z, NAT_S), (Z,), 6, ("nat", ONE))
        self.assertEqual(derivation, ("natS", (Z,), (("natZ", (), ()),)))

    def test_refl(self):
        self.assertEqual(derivation_within((), (Z,), 1, ("=", Z, Z)), ("refl", (Z,), ()))
        self.assertIsNone(derivation_within((), (Z,), 1, ("=", ONE, ONE)))
        self.assertIsNone(derivation_within((), (Z, ONE), 6, ("=", Z, ONE)))

    def test_every_fact_has_one_of_the_least_height(self):
        for rules, terms in ((NATURALS, (Z, ONE, TWO)), (PATHS, (A, B, C))):
            least = {}
            for height in range(1, 7):
                for fact in facts_within(rules, terms, height):
                    least.setdefault(fact, height)
            for height in range(7):
                for fact in least:
                    self.check(rules, terms, height, fact, least[fact])

    def test_none_beyond_the_height(self):
        terms = tuple(nested(count, Z) for count in range(6))
        self.check((NAT_Z, NAT_S), terms, 5, ("nat", nested(5, Z)), None)
        self.check((NAT_Z, NAT_S), terms, 6, ("nat", nested(5, Z)), 6)
        self.check((NAT_Z, NAT_S), terms, 6, ("nat", nested(6, Z)), None)
        self.check((NAT_Z, NAT_S), terms, 0, ("nat", Z), None)

    def test_least_height_whatever_the_names_and_the_order(self):
        long = (("a1", (), ("p",)), ("a2", (("p",),), ("q",)), ("a3", (("q",),), ("goal",)))
        short = (("z1", (), ("r",)), ("z2", (("r",),), ("goal",)))
        for rules in (long + short, short + long):
            self.check(rules, (), 6, ("goal",), 2)
            self.check(rules, (), 1, ("goal",), None)

    def test_inner_derivations_of_least_height(self):
        rules = (("base", (), ("p",)), ("more", (("p",),), ("p",)), ("up", (("p",),), ("q",)))
        self.check(rules, (), 6, ("p",), 1)
        self.check(rules, (), 6, ("q",), 2)

    def test_only_given_terms(self):
        rules = (("a", (("edge", 0, 1),), ("near", 0)), ("b", (), ("edge", 0, ("s", 0))))
        self.check(rules, (Z,), 6, ("near", Z), None)
        self.check(rules, (Z, ONE), 6, ("near", Z), 2)

    def test_facts_that_cannot_be_derived(self):
        for fact in (("nat", ("q",)), ("odd", Z), ("nat",), ("nat", Z, Z), ("nat", nested(58, Z))):
            self.check(NATURALS, (Z, ONE), 6, fact, None)


if __name__ == "__main__":
    unittest.main()
