"""Expanding derivations [108]."""

import itertools
import unittest

from openrules.deciding import check_decision, decide
from openrules.derivations import fact_of, height_of, rules_in
from openrules.errors import TooLarge, WrongDecision, WrongDerivation
from openrules.expanding import expanded
from openrules.rules import is_valid_rule
from openrules.statements import statement_of_rule
from openrules.terms import depth_of, size_of
from samples import ADD_S, ADD_Z, NATURALS, ONE, TWO, Z, broad, nested

P, Q, R = ("p",), ("q",), ("r",)
ANY = ("any",)
ADD_ONE = ("addOne", (), ("add", ONE, 0, ("s", 0)))
FOLLOWS = (True, 0, ((("add", Z, 0, 0), "addZ", ()), (("add", ONE, 0, ("s", 0)), "addS", (0,))), ())
ADD_TWO = ("addTwo", (("add", 0, 1, 2),), ("add", ("s", ("s", 0)), 1, ("s", ("s", 2))))


def ground(name, *derivations):
    """A derivation by a rule without variables."""
    return (name, (), derivations)


def decided(rules, extra):
    """The decision that the rule follows from the others."""
    decision = decide(rules, statement_of_rule(extra))
    assert decision[0]
    return decision


class ExpandedTest(unittest.TestCase):

    def checked(self, rules, extra, decision, derivation):
        """The expanded derivation, which has the same fact by the rules alone."""
        result = expanded(rules, extra, decision, derivation)
        fact = fact_of(rules + (extra,), derivation)
        self.assertIsNotNone(fact)
        self.assertEqual(fact_of(rules, result), fact)
        return result

    def test_example(self):
        result = self.checked((ADD_Z, ADD_S), ADD_ONE, FOLLOWS, ("addOne", (Z,), ()))
        self.assertEqual(result, ("addS", (Z, Z, Z), (("addZ", (Z,), ()),)))

    def test_without_the_extra_rule(self):
        derivation = ("natS", (Z,), (("natZ", (), ()),))
        self.assertEqual(self.checked(NATURALS, ADD_ONE, FOLLOWS, derivation), derivation)
        self.assertEqual(self.checked(NATURALS, ADD_ONE, FOLLOWS, ("refl", (TWO,), ())), ("refl", (TWO,), ()))

    def test_premises(self):
        inner = ("addZ", (ONE,), ())
        derivation = ("addTwo", (Z, ONE, ONE), (inner,))
        result = self.checked(NATURALS, ADD_TWO, decided(NATURALS, ADD_TWO), derivation)
        self.assertEqual(result, ("addS", (ONE, ONE, TWO), (("addS", (Z, ONE, ONE), (inner,)),)))

    def test_inside_of_other_rules(self):
        derivation = ("addS", (TWO, Z, TWO), (("addTwo", (Z, Z, Z), (("addZ", (Z,), ()),)),))
        result = self.checked(NATURALS, ADD_TWO, decided(NATURALS, ADD_TWO), derivation)
        self.assertEqual([result[0], result[2][0][0], result[2][0][2][0][0]], ["addS", "addS", "addS"])
        self.assertEqual((height_of(result), rules_in(result)), (4, 4))

    def test_extra_within_extra(self):
        derivation = ("addZ", (nested(3, Z),), ())
        for count in range(3):
            left, right = nested(2 * count, Z), nested(3 + 2 * count, Z)
            derivation = ("addTwo", (left, nested(3, Z), right), (derivation,))
        result = self.checked(NATURALS, ADD_TWO, decided(NATURALS, ADD_TWO), derivation)
        names = []
        while True:
            names.append(result[0])
            if not result[2]:
                break
            result = result[2][0]
        self.assertEqual(names, 6 * ["addS"] + ["addZ"])

    def test_extra_within_extra_that_is_used_twice(self):
        rules = (("both", (P, P), Q), ("again", (Q,), P), ("first", (), P))
        extra = ("extra", (P,), P)
        decision = (True, 0, ((P, None, ()), (Q, "both", (0, 0)), (P, "again", (1,))), ())
        # The conclusion is a premise here, so that the first step with this atom stands for it.
        derivation = ground("extra", ground("extra", ground("first")))
        self.assertEqual(self.checked(rules, extra, decision, derivation), ground("first"))
        extra = ("extra", (P,), R)
        rules = rules + (("last", (Q, Q), R), ("back", (R,), P))
        decision = (True, 0, ((P, None, ()), (Q, "both", (0, 0)), (R, "last", (1, 1))), ())
        one = self.checked(rules, extra, decision, ground("extra", ground("first")))
        both = ground("both", ground("first"), ground("first"))
        self.assertEqual(one, ground("last", both, both))
        two = self.checked(rules, extra, decision, ground("extra", ground("back", ground("extra", ground("first")))))
        both = ground("both", ground("back", one), ground("back", one))
        self.assertEqual(two, ground("last", both, both))

    def test_variables_of_the_statement_are_numbered_in_another_order(self):
        rules = (("swap", (("p", 1, 0),), ("q", 0, 1)), ("base", (), ("p", 0, 1)))
        extra = ("extra", (("p", 1, 0),), ("q", 0, 1))
        derivation = ("extra", (ONE, TWO), (("base", (TWO, ONE), ()),))
        expected = ("swap", (ONE, TWO), (("base", (TWO, ONE), ()),))
        self.assertEqual(self.checked(rules, extra, decided(rules, extra), derivation), expected)

    def test_variables_that_occur_in_premises_only(self):
        rules = (("path", (("edge", 0, 2), ("edge", 2, 1)), ("path", 0, 1)), ("edge", (), ("edge", 0, ("s", 0))))
        extra = ("extra", (("edge", 0, 2), ("edge", 2, 1), ("edge", 3, 0)), ("path", 0, 1))
        self.assertTrue(is_valid_rule(extra))
        steps = ((("edge", 0, 1), None, ()), (("edge", 1, 2), None, ()), (("path", 0, 2), "path", (0, 1)))
        edges = tuple(("edge", (nested(count, Z),), ()) for count in range(3))
        derivation = ("extra", (ONE, nested(3, Z), TWO, Z), (edges[1], edges[2], edges[0]))
        result = self.checked(rules, extra, (True, 0, steps, ()), derivation)
        self.assertEqual(result, ("path", (ONE, nested(3, Z), TWO), (edges[1], edges[2])))

    def test_the_first_premise_that_is_the_atom(self):
        rules = (("a", (), P), ("b", (), P))
        extra = ("extra", (Q, P, P), P)
        derivation = ground("extra", ground("q"), ground("b"), ground("a"))
        result = expanded(rules + (("q", (), Q),), extra, (True, 0, ((P, None, ()),), ()), derivation)
        self.assertEqual(result, ground("b"))

    def test_the_first_step_that_is_the_conclusion(self):
        rules = (("a", (), P), ("b", (), P), ("c", (P,), P))
        extra = ("extra", (), P)
        steps = ((P, "b", ()), (P, "a", ()), (P, "c", (1,)))
        self.assertEqual(self.checked(rules, extra, (True, 0, steps, ()), ground("extra")), ground("b"))
        # A step uses the steps that it names, not the first ones with the same atoms.
        rules += (("d", (P,), Q),)
        steps = ((P, "b", ()), (P, "a", ()), (P, "c", (1,)), (Q, "d", (2,)), (Q, "d", (0,)))
        result = self.checked(rules, ("extra", (), Q), (True, 0, steps, ()), ground("extra"))
        self.assertEqual(result, ground("d", ground("c", ground("a"))))

    def test_foreign_variables_stand_for_any(self):
        rules = (("some", (("p", 0),), Q), ("all", (), ("p", 0)), ("one", (("q", 0, 1),), ("p", 0)),
                 ("two", (), ("q", 0, 1)))
        steps = ((("p", ("f", 7, 65535)), "all", ()), (Q, "some", (0,)))
        result = self.checked(rules, ("extra", (), Q), (True, 0, steps, ()), ground("extra"))
        term = ("f", ANY, ANY)
        self.assertEqual(result, ("some", (term,), (("all", (term,), ()),)))
        extra = ("extra", (), ("p", 0))
        steps = ((("q", 0, ("s", 1)), "two", ()), (("p", 0), "one", (0,)))
        result = self.checked(rules, extra, (True, 0, steps, ()), ("extra", (TWO,), ()))
        self.assertEqual(result, ("one", (TWO, ("s", ANY)), (("two", (TWO, ("s", ANY)), ()),)))

    def test_terms_that_contain_any_already(self):
        rules = (("two", (), ("q", 0, 1)), ("one", (("q", 0, 1),), ("p", 0)))
        steps = ((("q", 0, 5), "two", ()), (("p", 0), "one", (0,)))
        derivation = ("extra", (("s", ANY),), ())
        result = self.checked(rules, ("extra", (), ("p", 0)), (True, 0, steps, ()), derivation)
        self.assertEqual(result[1], (("s", ANY), ANY))

    def test_refl_in_a_decision(self):
        rules = (("same", (("=", 0, 1),), ("eq", 0, 1)),)
        extra = ("extra", (), ("eq", ("s", 0), ("s", 0)))
        result = self.checked(rules, extra, decided(rules, extra), ("extra", (ONE,), ()))
        self.assertEqual(result, ("same", (TWO, TWO), (("refl", (TWO,), ()),)))

    def test_equations_as_premises(self):
        rules = (("same", (("=", 0, 1),), ("eq", 0, 1)),)
        extra = ("extra", (("=", 0, 1),), ("eq", ("f", 0), ("f", 0)))
        self.assertTrue(is_valid_rule(extra))
        derivation = ("extra", (ONE, ONE), (("refl", (ONE,), ()),))
        result = self.checked(rules, extra, decided(rules, extra), derivation)
        self.assertEqual(result, ("same", (("f", ONE), ("f", ONE)), (("refl", (("f", ONE),), ()),)))

    def test_order_of_the_rules(self):
        derivation = ("addS", (ONE, Z, ONE), (("addOne", (Z,), ()),))
        results = [expanded(order, ADD_ONE, FOLLOWS, derivation) for order in itertools.permutations(NATURALS)]
        self.assertEqual(results, 24 * results[:1])


class ErrorsTest(unittest.TestCase):

    def refused(self, error, *arguments):
        with self.assertRaises(error) as caught:
            expanded(*arguments)
        return caught.exception

    def test_wrong_decision(self):
        rules = (ADD_Z, ADD_S)
        statement = statement_of_rule(ADD_ONE)
        derivation = ("addOne", (Z,), ())
        false = (False, None, (), (("add", ONE, 0, ("s", 0)),))
        for decision in (false, (True, 1) + FOLLOWS[2:], (True, 0, FOLLOWS[2][:1], ()), (True, 0, FOLLOWS[2][1:], ())):
            self.assertFalse(check_decision(rules, statement, decision))
            self.refused(WrongDecision, rules, ADD_ONE, decision, derivation)
        self.refused(WrongDecision, rules[:1], ADD_ONE, FOLLOWS, derivation)
        self.refused(WrongDecision, rules, ADD_ONE, FOLLOWS[:2] + (FOLLOWS[2][:1] + ((P, None, ()),), ()), derivation)

    def test_a_right_decision_that_says_false(self):
        extra = ("extra", (), P)
        decision = decide((), statement_of_rule(extra))
        self.assertTrue(check_decision((), statement_of_rule(extra), decision))
        self.refused(WrongDecision, (), extra, decision, ground("extra"))

    def test_the_extra_rule_does_not_follow_from_itself(self):
        extra = ("extra", (), P)
        self.refused(WrongDecision, (), extra, (True, 0, ((P, "extra", ()),), ()), ground("extra"))

    def test_wrong_derivation(self):
        rules = (ADD_Z, ADD_S)
        for derivation in (
            ("other", (), ()), ("addOne", (), ()), ("addOne", (0,), ()), ("addOne", (Z, Z), ()), ("natZ", (), ()),
            ("addOne", (Z,), (("addZ", (Z,), ()),)), ("addS", (Z, Z, Z), (("addOne", (Z,), ()),)), ("", (), ()),
        ):
            error = self.refused(WrongDerivation, rules, ADD_ONE, FOLLOWS, derivation)
            self.assertEqual(error.place, 0)

    def test_wrong_decision_before_wrong_derivation(self):
        self.refused(WrongDecision, (), ADD_ONE, FOLLOWS, ("other", (), ()))

    def test_wrong_derivation_before_too_large(self):
        derivation = ("addS", (Z, Z, broad(201)), (("addOne", (Z,), ()),))
        self.refused(WrongDerivation, (ADD_Z, ADD_S), ADD_ONE, FOLLOWS, derivation)


def counted(count):
    """A term t such that p(t) is derived with so many rules by COUNTING."""
    if count == 1:
        return Z
    if count % 2:
        return ("d", counted(count // 2))
    return ("s", counted(count - 1))


COUNTING = (
    ("zero", (), ("p", Z)), ("suc", (("p", 0),), ("p", ("s", 0))), ("dbl", (("p", 0), ("p", 0)), ("p", ("d", 0))),
    ("fin", (("p", 0),), Q),
)


def counting_decision(count):
    """A decision for q whose derivation by COUNTING has so many rules; it has few steps."""
    term = counted(count - 1)
    parts = [term]
    while len(parts[-1]) > 1:
        parts.append(parts[-1][1])
    steps = [(("p", Z), "zero", ())]
    for place, part in enumerate(parts[-2::-1]):
        if part[0] == "s":
            steps.append((("p", part), "suc", (place,)))
        else:
            steps.append((("p", part), "dbl", (place, place)))
    return (True, 0, tuple(steps) + ((Q, "fin", (len(steps) - 1,)),), ())


class LimitsTest(unittest.TestCase):

    extra = ("extra", (), Q)

    def refused(self, *arguments):
        with self.assertRaises(TooLarge):
            expanded(*arguments)

    def test_exactly_2000_rules_and_more(self):
        for count in (2, 3, 100, 1999, 2000):
            result = expanded(COUNTING, self.extra, counting_decision(count), ground("extra"))
            self.assertEqual(rules_in(result), count)
            self.assertEqual(fact_of(COUNTING, result), Q)
        for count in (2001, 2002, 5000):
            self.refused(COUNTING, self.extra, counting_decision(count), ground("extra"))

    def test_rules_outside_count(self):
        rules = COUNTING + (("up", (Q,), ("r", Z)), ("pair", (Q, Q), R))
        self.assertEqual(rules_in(expanded(rules, self.extra, counting_decision(1999),
                                           ground("up", ground("extra")))), 2000)
        self.refused(rules, self.extra, counting_decision(2000), ground("up", ground("extra")))
        twice = ground("pair", ground("extra"), ground("extra"))
        self.assertEqual(rules_in(expanded(rules, self.extra, counting_decision(999), twice)), 1999)
        self.refused(rules, self.extra, counting_decision(1000), twice)

    def test_derivations_without_the_extra_rule_count_as_well(self):
        decision = counting_decision(3)
        for count in (1999, 2000):
            derivation = expanded(COUNTING, self.extra, counting_decision(count), ground("extra"))
            self.assertEqual(expanded(COUNTING, self.extra, decision, derivation), derivation)
        larger = ("fin", (("s", counted(1999)),), (("suc", (counted(1999),), derivation[2]),))
        self.assertEqual((rules_in(larger), fact_of(COUNTING, larger)), (2001, Q))
        self.refused(COUNTING, self.extra, decision, larger)

    def test_millions_of_rules(self):
        rules = (("base", (), P), ("many", (P, P, P, P), P), ("fin", (P,), Q))
        steps = [(P, "base", ())] + [(P, "many", 4 * (place,)) for place in range(198)]
        decision = (True, 0, tuple(steps) + ((Q, "fin", (198,)),), ())
        self.refused(rules, self.extra, decision, ground("extra"))
        rules += (("back", (Q,), P),)
        extra = ("extra", (P,), Q)
        decision = (True, 0, ((P, None, ()), (P, "many", (0, 0, 0, 0)), (Q, "fin", (1,))), ())
        derivation = ground("base")
        for _ in range(29):
            derivation = ground("back", ground("extra", derivation))
        self.refused(rules, extra, decision, derivation)

    def test_millions_of_rules_that_do_not_become_part_of_the_result(self):
        rules = (("base", (), P), ("many", (P, P, P, P), P), ("fin", (P,), Q))
        steps = [(P, "base", ())] + [(P, "many", 4 * (place,)) for place in range(198)]
        decision = (True, 0, tuple(steps) + ((Q, "fin", (0,)),), ())
        self.assertEqual(expanded(rules, self.extra, decision, ground("extra")), ground("fin", ground("base")))

    def chain(self, height):
        """Rules and a decision for q whose derivation has this height and as many rules."""
        rules = (("base", (), P), ("loop", (P,), P), ("fin", (P,), Q))
        steps = ((P, "base", ()),) + tuple((P, "loop", (place,)) for place in range(height - 2))
        return rules, (True, 0, steps + ((Q, "fin", (height - 2,)),), ())

    def test_height_of_60_and_61(self):
        rules, decision = self.chain(60)
        self.assertEqual(height_of(expanded(rules, self.extra, decision, ground("extra"))), 60)
        rules, decision = self.chain(61)
        self.refused(rules, self.extra, decision, ground("extra"))

    def test_height_outside_counts(self):
        rules, decision = self.chain(50)
        rules += (("up", (Q,), Q),)
        derivation = ground("extra")
        for _ in range(10):
            derivation = ground("up", derivation)
        self.assertEqual(height_of(expanded(rules, self.extra, decision, derivation)), 60)
        self.refused(rules, self.extra, decision, ground("up", derivation))

    def test_the_greatest_height_of_the_parts(self):
        rules, decision = self.chain(59)
        rules += (("pair", (Q, P), R), ("riap", (P, Q), R))
        for name, parts in (("pair", (ground("extra"), ground("base"))), ("riap", (ground("base"), ground("extra")))):
            self.assertEqual(height_of(expanded(rules, self.extra, decision, ground(name, *parts))), 60)
            self.refused(rules, self.extra, self.chain(60)[1], ground(name, *parts))

    def term_rules(self, wrapped):
        """Rules, an extra rule and its decision: the derivation of q(t) has `wrapped` with t for 0 as a term."""
        rules = (("all", (), ("p", 0)), ("down", (("p", wrapped),), ("q", 0)), ("none", (("q", 0),), R))
        extra = ("extra", (), ("q", 0))
        return rules, extra, (True, 0, ((("p", wrapped), "all", ()), (("q", 0), "down", (0,))), ())

    def test_terms_of_size_200_and_201(self):
        rules, extra, decision = self.term_rules(("s", 0))
        result = expanded(rules, extra, decision, ("extra", (broad(199),), ()))
        self.assertEqual(size_of(result[2][0][1][0]), 200)
        self.refused(rules, extra, decision, ("extra", (broad(200),), ()))
        rules, extra, decision = self.term_rules(("f", 0, 0, 0))
        self.assertEqual(size_of(expanded(rules, extra, decision, ("extra", (broad(66),), ()))[2][0][1][0]), 199)
        self.refused(rules, extra, decision, ("extra", (broad(67),), ()))

    def test_terms_of_depth_40_and_41(self):
        rules, extra, decision = self.term_rules(("s", 0))
        result = expanded(rules, extra, decision, ("extra", (nested(38, Z),), ()))
        self.assertEqual(depth_of(result[2][0][1][0]), 40)
        self.refused(rules, extra, decision, ("extra", (nested(39, Z),), ()))

    def test_each_term_counts(self):
        rules = (("two", (), ("p", 0, 1)), ("down", (("p", Z, ("s", 0)),), ("q", 0)))
        steps = ((("p", Z, ("s", 0)), "two", ()), (("q", 0), "down", (0,)))
        extra = ("extra", (), ("q", 0))
        expanded(rules, extra, (True, 0, steps, ()), ("extra", (broad(199),), ()))
        self.refused(rules, extra, (True, 0, steps, ()), ("extra", (broad(200),), ()))

    def test_terms_in_several_places_of_large_steps(self):
        wrapped = ("f",) + 8 * (0,)
        rules, extra, decision = self.term_rules(wrapped)
        grown = ("f",) + 8 * (wrapped,)
        steps = ((("p", ("g", grown)), "all", ()),) + decision[2]
        decision = (True, 0, steps[:1] + ((("p", wrapped), "all", ()), (("q", 0), "down", (1,))), ())
        self.refused(rules, extra, decision, ("extra", (broad(200),), ()))
        # The first step has no place in the result, so its term may be of any size.
        self.assertEqual(expanded(rules, extra, decision, ("extra", (broad(24),), ()))[0], "down")

    def test_unused_premises_do_not_count(self):
        """A derivation of a premise that the decision does not use is left out, however large it would become."""
        rules = COUNTING + (("r", (Q,), ("r", Z)), ("both", (("r", Z), ("p", Z)), R))
        extra = ("extra", (R,), Q)
        steps = ((("p", Z), "zero", ()), (Q, "fin", (0,)))
        inner = ground("both", ground("r", ground("extra", self.grown(rules))), ground("zero"))
        result = expanded(rules, extra, (True, 0, steps, ()), ground("extra", inner))
        self.assertEqual(result, ("fin", (Z,), (ground("zero"),)))

    def grown(self, rules):
        """A derivation of r by the rules that has not few rules itself."""
        derivation, term = ground("zero"), Z
        for _ in range(6):
            derivation, term = ("dbl", (term,), (derivation, derivation)), ("d", term)
        result = ground("both", ground("r", ("fin", (term,), (derivation,))), ground("zero"))
        self.assertEqual(fact_of(rules, result), R)
        return result

    def test_terms_of_unused_premises_do_not_count(self):
        rules = (("all", (), ("p", 0)), ("down", (("p", ("s", 0)),), ("q", 0)), ("out", (("q", 0),), R))
        extra = ("extra", (R,), ("q", 0))
        decision = (True, 0, ((("p", ("s", 0)), "all", ()), (("q", 0), "down", (0,))), ())
        base = ("down", (Z,), (("all", (ONE,), ()),))
        large = ("out", (broad(200),), (("extra", (broad(200),), (("out", (Z,), (base,)),)),))
        self.refused(rules, extra, decision, large)
        self.assertEqual(expanded(rules, extra, decision, ("extra", (Z,), (large,))), base)


if __name__ == "__main__":
    unittest.main()
