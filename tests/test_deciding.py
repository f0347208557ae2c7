"""Deciding what follows [100] to [107]."""

import itertools
import unittest

from openrules.deciding import analytic_bound, check_decision, decide, examined_atoms
from openrules.errors import HasExistentials, NotDetermined, TooLarge
from openrules.facts import facts_within
from openrules.rules import is_analytic, is_valid_rule, numbered_rule
from openrules.statements import is_valid_statement, numbered_statement
from openrules.terms import depth_of, size_of, substitute
from samples import ADD_S, ADD_Z, NAT_S, NAT_Z, NATURALS, Z, broad, nested

A, B, C = ("a",), ("b",), ("c",)
P, Q, R, U, V = ("p",), ("q",), ("r",), ("u",), ("v",)
TRANS = ("trans", (("edge", 0, 2), ("path", 2, 1)), ("path", 0, 1))
SUM = (3, (("add", 0, 1, 2),), ((("nat", 0),), (("add", ("s", 0), 1, ("s", 2)),)))


def statement(premises, *disjuncts):
    """A statement without existential variables."""
    made = numbered_statement(premises, tuple(((), atoms) for atoms in disjuncts))
    assert is_valid_statement(made), made
    return made


def proposed(*rules):
    """Rules between atoms without arguments: `"a p q r"` is the rule a with which p follows from q and r."""
    made = []
    for line in rules:
        name, conclusion, *premises = line.split()
        made.append((name, tuple((premise,) for premise in premises), (conclusion,)))
    return tuple(made)


class ExaminedTest(unittest.TestCase):

    def test_example(self):
        expected = (("nat", 0), ("add", ("s", 0), 1, ("s", 2)), ("add", 0, 1, 2))
        self.assertEqual(examined_atoms(NATURALS, SUM), expected)

    def test_no_disjuncts(self):
        self.assertEqual(examined_atoms(NATURALS, statement((("nat", 0),))), ())
        self.assertEqual(decide(NATURALS, statement((("nat", 0),))), (False, None, (), ()))
        self.assertEqual(decide((), (0, (), ())), (False, None, (), ()))

    def test_all_disjuncts_from_left_to_right_without_repetitions(self):
        made = statement((), (P, Q), (Q, R, P), (U, R))
        self.assertEqual(examined_atoms((), made), (P, Q, R, U))

    def test_first_in_first_out(self):
        rules = proposed("a p u v", "b u r", "c q p p", "d v q")
        self.assertEqual(examined_atoms(rules, statement((), (P, Q))), (P, Q, U, V, R))

    def test_rule_by_rule_by_name(self):
        rules = proposed("b p u", "a p v r", "aB p q", "bA p u")
        for order in itertools.permutations(rules):
            self.assertEqual(examined_atoms(order, statement((), (P,))), (P, V, R, Q, U))

    def test_premises_of_the_statement_are_left_alone(self):
        atoms = (("nat", nested(3, 0)), ("nat", nested(2, 0)))
        self.assertEqual(examined_atoms(NATURALS, statement(atoms[1:], atoms[:1])), atoms)
        self.assertEqual(examined_atoms(proposed("a p q"), statement((P,), (P,))), (P,))

    def test_variables_are_like_names(self):
        same = ("same", (U,), ("eq", 0, 0))
        self.assertEqual(examined_atoms((same,), statement((), (("eq", 0, 1),))), (("eq", 0, 1),))
        self.assertEqual(examined_atoms((same,), statement((), (("eq", 1, 1),))), (("eq", 0, 0), U))
        self.assertEqual(examined_atoms((NAT_S,), statement((), (("nat", 0),))), (("nat", 0),))

    def test_names_with_other_numbers_of_arguments(self):
        rules = (("a", (U,), ("p", 0)), ("b", (V,), ("p", 0, 0)))
        self.assertEqual(examined_atoms(rules, statement((), (("p", A),))), (("p", A), U))
        self.assertEqual(examined_atoms(rules, statement((), (("p", A, A),))), (("p", A, A), V))
        self.assertEqual(examined_atoms(rules, statement((), (P,))), (P,))

    def test_found_again(self):
        rules = proposed("a p q p", "b q p r")
        self.assertEqual(examined_atoms(rules, statement((), (P,))), (P, Q, R))

    def test_terms_of_the_conclusion(self):
        rule = ("swap", (("p", 1, 0), ("p", ("f", 1), A), ("p", A, A)), ("p", ("f", 0), 1))
        expected = (("p", ("f", Z), 0), ("p", 0, Z), ("p", ("f", 0), A), ("p", A, A), ("p", A, 0), ("p", ("f", A), A))
        self.assertEqual(examined_atoms((rule,), statement((), (("p", ("f", Z), 3),))), expected)

    def test_nothing_is_changed(self):
        rules = (ADD_S, NAT_Z)
        examined_atoms(rules, SUM)
        self.assertEqual(rules, (ADD_S, NAT_Z))


class DecideTest(unittest.TestCase):

    def test_examples(self):
        steps = ((("add", 0, 1, 2), None, ()), (("add", ("s", 0), 1, ("s", 2)), "addS", (0,)))
        self.assertEqual(decide(NATURALS, SUM), (True, 1, steps, (("nat", 0),)))
        refuted = (("add", ("s", 0), Z, ("s", 0)), ("add", 0, Z, 0))
        self.assertEqual(decide((ADD_Z, ADD_S), statement((), refuted[:1])), (False, None, (), refuted))
        self.assertEqual(decide(NATURALS, statement((), refuted[:1])), (False, None, (), refuted))

    def test_premises_come_first_in_the_order_in_which_they_were_found(self):
        made = statement((V, U, R), (P, U), (V,))
        steps = ((U, None, ()), (V, None, ()), (P, "a", (0,)))
        self.assertEqual(decide(proposed("a p u"), made), (True, 0, steps, ()))

    def test_a_premise_that_a_rule_concludes_too(self):
        self.assertEqual(decide(proposed("a p"), statement((P,), (P,))), (True, 0, ((P, None, ()),), ()))

    def test_rounds(self):
        rules = proposed("a p q", "b q r", "c r")
        steps = ((R, "c", ()), (Q, "b", (0,)), (P, "a", (1,)))
        self.assertEqual(decide(rules, statement((), (P,))), (True, 0, steps, ()))

    def test_a_step_of_the_same_round_does_not_count_yet(self):
        rules = proposed("a p r", "b p u", "c r", "d u")
        steps = ((R, "c", ()), (U, "d", ()), (P, "a", (0,)))
        self.assertEqual(decide(rules, statement((), (R, P))), (True, 0, steps, ()))

    def test_the_first_rule_by_name_that_is_ready(self):
        for order in itertools.permutations(proposed("b p u", "a p v", "aB p u", "u u", "v v w", "w w")):
            _, _, steps, _ = decide(order, statement((), (P,)))
            self.assertEqual(steps, ((U, "u", ()), (("w",), "w", ()), (P, "aB", (0,)), (V, "v", (1,))))

    def test_refl(self):
        equal = ("=", ("s", 0), ("s", 0))
        expected = (True, 1, ((equal, "refl", ()),), (("=", 0, ("s", 0)),))
        self.assertEqual(decide((), statement((), (("=", 0, ("s", 0)),), (equal,))), expected)
        self.assertFalse(decide((), statement((), (("=", 0, 1),)))[0])
        self.assertEqual(decide((), statement((("=", 0, 1),), (("=", 0, 1),)))[2], ((("=", 0, 1), None, ()),))
        self.assertEqual(decide((), statement((("=", 0, 0),), (("=", 0, 0),)))[2], ((("=", 0, 0), None, ()),))

    def test_equations_as_premises_of_rules(self):
        rule = ("same", (("=", 0, 1),), ("eq", 0, 1))
        steps = ((("=", 0, 0), "refl", ()), (("eq", 0, 0), "same", (0,)))
        self.assertEqual(decide((rule,), statement((), (("eq", 0, 0),))), (True, 0, steps, ()))
        refuted = (("eq", 0, 1), ("=", 0, 1))
        self.assertEqual(decide((rule,), statement((), (("eq", 0, 1),))), (False, None, (), refuted))

    def test_the_first_disjunct_that_follows(self):
        rules = proposed("q q", "r r")
        self.assertEqual(decide(rules, statement((), (P,), (Q,), (R,)))[:2], (True, 1))
        self.assertEqual(decide(rules, statement((), (P, Q), (Q, R), (Q,)))[:2], (True, 1))
        self.assertEqual(decide(rules, statement((), (P, Q), (R, P)))[:2], (False, None))

    def test_refuted_atoms_are_told_in_any_case(self):
        rules = proposed("a p q", "u u", "v v u")
        expected = (True, 1, ((U, "u", ()), (V, "v", (0,))), (P, Q))
        self.assertEqual(decide(rules, statement((), (P,), (V,))), expected)

    def test_circles_derive_nothing(self):
        rules = proposed("a p q", "b q p")
        self.assertEqual(decide(rules, statement((), (P,))), (False, None, (), (P, Q)))

    def test_premises_in_order_and_several_times(self):
        rules = proposed("a p r q r", "q q", "r r")
        steps = ((R, "r", ()), (Q, "q", ()), (P, "a", (0, 1, 0)))
        self.assertEqual(decide(rules, statement((), (P,))), (True, 0, steps, ()))

    def test_true_for_the_facts_but_not_for_every_model(self):
        self.assertFalse(decide(NATURALS, statement((("nat", 0),), (("add", 0, Z, 0),)))[0])

    def test_against_the_facts(self):
        """Ground statements follow if the facts of the rules, together with their premises, have a disjunct."""
        rules = (NAT_Z, NAT_S, ("evZ", (), ("even", Z)), ("evS", (("odd", 0),), ("even", ("s", 0))),
                 ("odS", (("even", 0),), ("odd", ("s", 0))), ("both", (("even", 0), ("nat", 0)), ("good", 0)))
        terms = tuple(nested(count, Z) for count in range(4))
        atoms = [(name, term) for name in ("nat", "even", "odd", "good") for term in terms[:3]]
        for premise, first, second in itertools.product(atoms, repeat=3):
            facts = facts_within(rules + (("given", (), premise),), terms, 6)
            decision = decide(rules, (0, (premise,), ((first, second), (second,))))
            self.assertEqual(decision[:2], (True, 0 if first in facts else 1) if second in facts else (False, None))


class DecideErrorsTest(unittest.TestCase):

    def both(self, error, rules, made):
        for function in (decide, examined_atoms):
            with self.assertRaises(error) as caught:
                function(rules, made)
        return caught.exception

    def test_existentials(self):
        for disjuncts in (((("nat", 0),),), ((P,), (P, ("p", 0))), ((("path", 0, A),),)):
            self.both(HasExistentials, (TRANS, ("more", (("nat", ("s", 0)),), ("nat", 0))), (0, (), disjuncts))

    def test_not_determined(self):
        error = self.both(NotDetermined, (NAT_Z, TRANS), statement((), (("path", A, B),)))
        self.assertEqual(error.name, "trans")

    def test_the_first_by_name_that_is_not_determined(self):
        rules = tuple((name, (("path", 0, 2),), ("path", 0, 1)) for name in ("c", "bA", "b", "bB"))
        rules += (("a", (("path", 0, 1),), ("path", 0, 1)), ("aA", (("p", 0),), ("q",)))
        for order in itertools.permutations(rules):
            self.assertEqual(self.both(NotDetermined, order, statement((), (("path", A, B),))).name, "b")

    def test_only_rules_on_which_the_disjuncts_depend(self):
        for made in (statement((("path", 0, 1),), (("nat", 0),)), statement((("path", 0, 1),)),
                     statement((), (("path", A),), (("path", A, B, C), ("edge", A, B)))):
            self.assertFalse(decide((TRANS, NAT_Z), made)[0])

    def test_through_premises_of_rules(self):
        needs = ("needs", (("path", 0, 0),), ("top", 0))
        far = ("far", (("nat", 0), ("top", 0)), ("far", 0))
        made = statement((), (("nat", A),), (P, ("far", A)))
        self.assertEqual(self.both(NotDetermined, (TRANS, needs, far), made).name, "trans")
        self.assertFalse(decide((TRANS, needs), made)[0])
        self.assertFalse(decide((TRANS, far), made)[0])

    def test_relations_alone_tell_what_depends(self):
        rule = ("r", (("p", 0),), ("q", A))
        self.assertEqual(self.both(NotDetermined, (rule,), statement((), (("q", B),))).name, "r")
        self.both(NotDetermined, (rule,), statement((("q", A),), (("q", A),)))

    def test_not_determined_before_too_large(self):
        rules = (("loop", (("p", ("s", 0)),), ("p", 0)), ("p", (("q", 1),), ("p", 0)))
        self.both(NotDetermined, rules, statement((), (("p", A),)))
        self.both(TooLarge, rules[:1], statement((), (("p", A),)))

    def many_rules(self):
        """24 rules, which conclude four atoms and then some that they lead to: 100 atoms in all."""
        names = [f"n{number}" for number in range(100)]
        return tuple((f"r{place}", tuple((name,) for name in names[4 + 4 * place:8 + 4 * place]), (names[place],))
                     for place in range(24))

    def test_exactly_100_atoms_and_more(self):
        rules = self.many_rules()
        self.assertTrue(all(is_valid_rule(rule) for rule in rules))
        first = tuple((f"n{number}",) for number in range(4))
        self.assertEqual(len(examined_atoms(rules, statement((), first))), 100)
        self.assertEqual(len(decide(rules, statement((), first))[3]), 100)
        self.both(TooLarge, rules, statement((), first, (P,)))
        self.assertEqual(len(examined_atoms(rules, statement((("n23",),), first, (P,)))), 97)

    def test_an_atom_too_many_at_the_end(self):
        rules = self.many_rules()
        more = rules[:23] + (("r23", rules[23][1][:3] + (P,), rules[23][2]),)
        first = tuple((f"n{number}",) for number in range(4))
        self.assertEqual(len(examined_atoms(more, statement((), first, (P,)))), 100)
        self.both(TooLarge, more, statement((), first, (P, Q)))

    def test_size_of_500_and_501(self):
        for count, fits in ((26, True), (27, False)):
            rule = ("r", (("p",) + 7 * (0,) + (("f", 0, broad(count)),),), ("q", 0))
            made = statement((), (("q", broad(59)),))
            if fits:
                self.assertEqual([size_of(atom) for atom in examined_atoms((rule,), made)], [60, 500])
            else:
                self.both(TooLarge, (rule,), made)

    def test_depth_of_20_and_21(self):
        made = statement((), (("q", nested(10, Z)),))
        fits = examined_atoms((("r", (("p", nested(8, 0)),), ("q", 0)),), made)
        self.assertEqual([depth_of(atom) for atom in fits], [12, 20])
        self.both(TooLarge, (("r", (("p", nested(9, 0)),), ("q", 0)),), made)

    def test_no_end(self):
        self.both(TooLarge, (("loop", (("p", ("s", 0)),), ("p", 0)),), statement((), (("p", 0),)))
        self.both(TooLarge, (("loop", (("p", ("f", 0, 0)),), ("p", 0)),), statement((), (("p", 0),)))
        loop = ("loop", (("p", ("f",) + 8 * (0,)), ("p", 0)), ("p", 0))
        self.both(TooLarge, (loop,), statement((), (("p", broad(59)),)))


class CheckTrueTest(unittest.TestCase):

    rules = NATURALS + (TRANS, ("pathE", (("edge", 0, 1),), ("path", 0, 1)), ("some", (("nat", 1),), ("any", 0)))

    def right(self, made, *decision):
        self.assertIs(check_decision(self.rules, made, decision), True, decision)

    def wrong(self, made, *decision):
        self.assertIs(check_decision(self.rules, made, decision), False, decision)

    def test_example(self):
        self.right(SUM, *decide(NATURALS, SUM))

    def test_existentials(self):
        with self.assertRaises(HasExistentials):
            check_decision((), (0, (), ((P,), (("p", 0),))), (False, None, (), (P, ("p", 0))))
        with self.assertRaises(HasExistentials):
            check_decision((), (1, (("p", 0),), ((("p", 1),),)), (True, 7, (), ()))

    def test_number_of_the_disjunct(self):
        made = statement((P, Q), (P,), (R,), (Q,))
        steps = ((Q, None, ()), (P, None, ()))
        self.right(made, True, 0, steps, ())
        self.right(made, True, 2, steps, ())
        for number in (1, 3, 999, None):
            self.wrong(made, True, number, steps, ())
        self.wrong(statement((P,)), True, 0, ((P, None, ()),), ())
        self.wrong(statement((P,)), True, None, (), ())

    def test_each_atom_of_the_disjunct(self):
        made = statement((P, Q), (P, Q, P))
        self.right(made, True, 0, ((Q, None, ()), (P, None, ())), ())
        self.wrong(made, True, 0, ((Q, None, ()),), ())
        self.wrong(made, True, 0, ((P, None, ()),), ())
        self.wrong(made, True, 0, (), ())

    def test_steps_without_a_rule(self):
        made = statement((P, Q), (P,))
        self.right(made, True, 0, ((P, None, ()), (P, None, ())), ())
        self.wrong(made, True, 0, ((P, None, ()), (R, None, ())), ())
        self.wrong(made, True, 0, ((Q, None, ()), (P, None, (0,))), ())
        self.wrong(statement((("p", 0),), (("p", 0),)), True, 0, ((("p", 1), None, ()), (("p", 0), None, ())), ())

    def test_unknown_rules(self):
        made = statement((), (("nat", Z),))
        self.right(made, True, 0, ((("nat", Z), "natZ", ()),), ())
        for name in ("", "=", "natS", "natz", "refl", "other"):
            self.wrong(made, True, 0, ((("nat", Z), name, ()),), ())

    def test_refl(self):
        self.right(statement((), (("=", 0, 0),)), True, 0, ((("=", 0, 0), "refl", ()),), ())
        self.wrong(statement((), (("=", 0, 1),)), True, 0, ((("=", 0, 1), "refl", ()),), ())
        self.wrong(statement((), (("=", 0, 0),)), True, 0, ((("=", 0, 0), "natZ", ()),), ())
        made = statement((P,), (("=", 0, 0),))
        self.wrong(made, True, 0, ((P, None, ()), (("=", 0, 0), "refl", (0,))), ())

    def test_number_of_premises(self):
        made = statement((("nat", 0),), (("nat", ("s", 0)),))
        given = (("nat", 0), None, ())
        self.right(made, True, 0, (given, (("nat", ("s", 0)), "natS", (0,))), ())
        for numbers in ((), (0, 0), 30 * (0,)):
            self.wrong(made, True, 0, (given, (("nat", ("s", 0)), "natS", numbers)), ())

    def test_premises_are_earlier_steps(self):
        made = statement((("nat", 0),), (("nat", ("s", 0)),))
        given, step = (("nat", 0), None, ()), (("nat", ("s", 0)), "natS", (1,))
        self.right(made, True, 0, (step[:2] + ((0,),), given)[::-1], ())
        self.wrong(made, True, 0, (step, given), ())
        self.wrong(made, True, 0, (given, step), ())
        for number in (2, 3, 999):
            self.wrong(made, True, 0, (given, step[:2] + ((number,),)), ())
        rules = (("loop", (P,), P),)
        self.assertFalse(check_decision(rules, statement((), (P,)), (True, 0, ((P, "loop", (0,)),), ())))

    def test_instances(self):
        made = statement((("nat", ("s", 0)), ("nat", 0)), (("nat", ("s", 0)),))
        steps = ((("nat", ("s", 0)), None, ()), (("nat", 0), None, ()))
        self.right(made, True, 0, steps + ((("nat", ("s", 0)), "natS", (1,)),), ())
        self.wrong(made, True, 0, steps + ((("nat", ("s", 0)), "natS", (0,)),), ())
        self.wrong(made, True, 0, steps + ((("nat", 0), "natS", (0,)),), ())

    def test_order_of_the_premises(self):
        made = statement((("edge", A, B), ("path", B, C)), (("path", A, C),))
        steps = ((("edge", A, B), None, ()), (("path", B, C), None, ()))
        self.right(made, True, 0, steps + ((("path", A, C), "trans", (0, 1)),), ())
        self.wrong(made, True, 0, steps + ((("path", A, C), "trans", (1, 0)),), ())

    def test_variables_that_occur_in_premises_only(self):
        made = statement((("edge", A, B), ("path", C, C)), (("path", A, C),))
        steps = ((("edge", A, B), None, ()), (("path", C, C), None, ()))
        self.wrong(made, True, 0, steps + ((("path", A, C), "trans", (0, 1)),), ())
        steps = ((("nat", Z), "natZ", ()), (("any", A), "some", (0,)))
        self.right(statement((), (("any", A),)), True, 0, steps, ())
        self.wrong(statement((), (("any", A),)), True, 0, ((("any", A), "some", ()),), ())

    def test_foreign_variables(self):
        steps = ((("=", 7, 7), "refl", ()), (("add", Z, 9, 9), "addZ", ()),
                 (("add", ("s", Z), 9, ("s", 9)), "addS", (1,)))
        made = statement((("nat", 0),), (("nat", 0),))
        self.right(made, True, 0, steps + ((("nat", 0), None, ()),), ())
        self.wrong(made, True, 0, steps + ((("nat", 0), None, ()), (("add", Z, 9, 8), "addZ", ())), ())

    def test_steps_that_are_not_needed_have_to_be_right(self):
        made = statement((P,), (P,))
        self.wrong(made, True, 0, ((P, None, ()), (Q, "natZ", ())), ())
        self.wrong(made, True, 0, ((P, None, ()), (("nat", ("s", Z)), "natZ", ())), ())

    def test_refuted_atoms_do_not_matter(self):
        self.right(statement((P,), (P,)), True, 0, ((P, None, ()),), (P, Q, ("nat", Z)))

    def test_large_atoms_and_many_steps(self):
        large = ("nat", broad(499))
        made = statement((P,), (P,))
        steps = 199 * ((("=", large, large), "refl", ()),)
        self.right(made, True, 0, steps + ((P, None, ()),), ())
        self.wrong(made, True, 0, steps + ((P, None, (0,)),), ())


class CheckFalseTest(unittest.TestCase):

    def right(self, rules, made, refuted, steps=()):
        self.assertIs(check_decision(rules, made, (False, None, steps, refuted)), True)

    def wrong(self, rules, made, refuted, disjunct=None):
        self.assertIs(check_decision(rules, made, (False, disjunct, (), refuted)), False)

    def test_examples(self):
        made = statement((), (("add", ("s", 0), Z, ("s", 0)),))
        self.right(NATURALS, made, decide(NATURALS, made)[3])
        self.wrong((NAT_Z, NAT_S), statement((), (("nat", ("s", 0)),)), (("nat", ("s", 0)),))
        self.right((NAT_Z, NAT_S), statement((), (("nat", ("s", 0)),)), (("nat", ("s", 0)), ("nat", 0)))

    def test_the_disjunct_is_none(self):
        made = statement((), (P,))
        self.right((), made, (P,))
        for disjunct in (0, 1, 999):
            self.wrong((), made, (P,), disjunct)

    def test_each_disjunct(self):
        made = statement((), (P, Q), (R, U))
        self.right((), made, (Q, R))
        self.right((), made, (U, P))
        self.wrong((), made, (P, Q))
        self.wrong((), made, (R,))
        self.wrong((), made, ())
        self.right((), statement((P,)), ())

    def test_premises_of_the_statement(self):
        made = statement((U, Q), (P, Q))
        self.right((), made, (P,))
        self.wrong((), made, (P, Q))
        self.wrong((), made, (P, U))
        self.wrong((), made, (Q,))

    def test_every_rule_that_concludes(self):
        made = statement((), (P,))
        self.right(proposed("a p q"), made, (P, Q))
        self.wrong(proposed("a p q"), made, (P,))
        self.wrong(proposed("a p"), made, (P,))
        self.right(proposed("a p q r", "b p u v"), made, (P, R, U))
        self.wrong(proposed("a p q r", "b p u v"), made, (P, R, Q))
        self.wrong(proposed("a p q r", "b p u v"), made, (U, V, P))
        self.right(proposed("a p p"), made, (P,))
        self.right(proposed("a p q", "b q p"), made, (P, Q))
        self.wrong(proposed("a p q", "b q"), made, (P, Q))

    def test_every_refuted_atom(self):
        self.wrong(proposed("a q"), statement((), (P,)), (P, Q))
        self.wrong(proposed("a q u"), statement((), (P,)), (P, Q))
        self.wrong(proposed("a q"), statement((), (P,)), (Q, P))

    def test_refl(self):
        self.right((), statement((), (("=", 0, 1),)), (("=", 0, 1),))
        self.wrong((), statement((), (("=", 0, 0),)), (("=", 0, 0),))
        self.wrong((), statement((), (P,)), (P, ("=", 5, 5)))

    def test_terms_of_the_conclusion(self):
        rule = ("r", (("q", 1, 0),), ("p", 0, 1))
        made = statement((), (("p", A, 0),))
        self.right((rule,), made, (("p", A, 0), ("q", 0, A)))
        self.wrong((rule,), made, (("p", A, 0), ("q", A, 0)))
        self.wrong((rule,), made, (("p", A, 0), ("q", 1, A)))

    def test_rules_that_are_not_determined(self):
        made = statement((), (("path", A, B),))
        atoms = tuple((name, left, right) for name in ("edge", "path") for left in (A, B, C) for right in (A, B, C))
        self.wrong((TRANS,), made, atoms)
        self.wrong((TRANS,), made, atoms + (("edge", 0, 2), ("path", 2, 1), ("edge", A, 2)))
        checked = ("trans", TRANS[1] + (("ok", 1, 0),), TRANS[2])
        self.right((checked,), made, (("path", A, B), ("ok", B, A)))
        self.wrong((checked,), made, (("path", A, B), ("ok", A, B)))
        ground = ("trans", TRANS[1] + (Q,), TRANS[2])
        self.right((ground,), made, (("path", A, B), Q))
        free = ("free", (("q", 0),), P)
        self.wrong((free,), statement((), (P,)), (P, ("q", 0)))
        self.right((free,), statement((), (R,)), (R,))

    def test_foreign_variables(self):
        made = statement((), (("nat", ("s", 0)),))
        self.right((NAT_Z, NAT_S), made, (("nat", 5), ("nat", ("s", 0)), ("nat", 0)))
        self.wrong((NAT_Z, NAT_S), made, (("nat", ("s", 0)), ("nat", 5)))
        self.wrong((NAT_Z, NAT_S), made, (("nat", ("s", 5)), ("nat", ("s", 0)), ("nat", 0)))

    def test_steps_do_not_matter(self):
        steps = ((P, "other", (5, 999)), (P, None, ()), (P, "", 30 * (0,)))
        self.right((), statement((), (P,)), (P,), steps)

    def test_large_atoms(self):
        grown = ("r", (("p",) + 7 * (("f",) + 6 * (0,),), ("q", 0)), ("q", 0))
        self.assertTrue(is_valid_rule(grown))
        atoms = tuple(("q", ("b", broad(490), nested(count % 10, count))) for count in range(199))
        self.right((grown,), statement((), (P,)), atoms + (P,))


class AllDecisionsTest(unittest.TestCase):
    """Decisions of many statements, and what becomes of them when something in them is changed."""

    rules = (NAT_Z, NAT_S, ("eqZ", (), ("eq", Z, Z)), ("eqS", (("eq", 0, 1),), ("eq", ("s", 0), ("s", 1))),
             ("sym", (("eq", 1, 0),), ("eq", 0, 1)), ("same", (("=", 0, 1), ("nat", 0)), ("eq", 0, 1)))

    def statements(self):
        atoms = (("nat", 0), ("nat", ("s", ("s", Z))), ("eq", 0, Z), ("eq", ("s", 0), ("s", 1)), ("eq", 1, 1),
                 ("=", 0, 1))
        for premise, first, second, third in itertools.product(atoms, repeat=4):
            yield numbered_statement((premise,), (((), (first, second)), ((), (third,))))

    def test_decisions_are_right(self):
        found = {True: 0, False: 0}
        for made in self.statements():
            decision = decide(self.rules, made)
            found[decision[0]] += 1
            self.assertTrue(check_decision(self.rules, made, decision), made)
            self.assertTrue(check_decision(self.rules[::-1], made, decision), made)
            opposite = (not decision[0], None if decision[0] else 0) + decision[2:]
            self.assertFalse(check_decision(self.rules, made, opposite), made)
        self.assertGreater(min(found.values()), 100)

    def test_right_decisions_are_true(self):
        """Whatever steps and refuted atoms are thought of, they are right only if the statement follows or not."""
        atoms = (P, Q, R)
        rules = proposed("a p q", "b q p", "c r")
        steps = [(atom, name, numbers) for atom in atoms for name in ("a", "b", "c", None)
                 for numbers in ((), (0,), (1,), (1, 0))]
        for premises, disjuncts in (
            ((), ((P,), (Q,))), ((Q,), ((P,), (U,))), ((), ((P,), (R,))), ((P,), ((U,), (Q,))), ((R,), ((Q,),)),
        ):
            made = statement(premises, *disjuncts)
            follows = decide(rules, made)[0]
            rights = [check_decision(rules, made, (True, disjunct, chosen, ())) for disjunct in range(len(disjuncts))
                      for count in range(3) for chosen in itertools.product(steps, repeat=count)]
            self.assertEqual(any(rights), follows)
            refuted = [check_decision(rules, made, (False, None, (), chosen))
                       for count in range(4) for chosen in itertools.permutations(atoms, count)]
            self.assertEqual(any(refuted), not follows)

    def test_examined_atoms_of_analytic_rules_are_within_the_bound(self):
        self.assertTrue(all(is_analytic(rule) for rule in self.rules))
        for made in self.statements():
            self.assertLessEqual(len(examined_atoms(self.rules, made)), analytic_bound(self.rules, made))


class AnalyticBoundTest(unittest.TestCase):

    def test_naturals(self):
        self.assertEqual(analytic_bound(NATURALS, SUM), 5 + 5 ** 3)
        self.assertEqual(analytic_bound((), SUM), 5 + 5 ** 3)
        self.assertEqual(analytic_bound(NATURALS, statement((), (("nat", 0),))), 1 + 1)

    def test_no_arguments(self):
        self.assertEqual(analytic_bound((), statement((), (P,))), 1)
        self.assertEqual(analytic_bound((), statement((), (P, P), (Q,))), 2)
        self.assertEqual(analytic_bound((NAT_S,), statement((), (P,))), 1 + 0)
        self.assertEqual(analytic_bound((("r", (P, ("q", 0)), R),), statement((), (("q", 0),))), 1 + 1)
        self.assertEqual(analytic_bound((), (0, (), ())), 0)

    def test_ground_arguments_of_premises(self):
        rule = ("r", (("p", nested(2, Z), ("f", 0)), ("q", A)), ("q", 0))
        made = statement((), (("q", ("s", A)),))
        self.assertEqual(analytic_bound((rule,), made), 5 + 5 ** 2)
        self.assertEqual(analytic_bound((rule,), (0, (), ())), 4 + 4 ** 2)

    def test_conclusions_and_premises_of_the_statement_do_not_count(self):
        rule = ("r", (), ("p", nested(5, Z), A))
        made = statement((("t", nested(7, 0)),), (("q", 0),))
        self.assertEqual(analytic_bound((rule,), made), 1)

    def test_relations_with_other_numbers_of_arguments(self):
        self.assertEqual(analytic_bound((), statement((), (("p", A), ("p", A, B), P))), 1 + 2 + 4)

    def test_equations(self):
        rule = ("r", (("=", A, 0), ("=", 0, B)), ("p", 0))
        self.assertEqual(analytic_bound((rule,), statement((), (("p", Z),))), 3 + 9)
        self.assertEqual(analytic_bound((), statement((), (("=", ("f", 0), 1),))), 3 ** 2)

    def test_variables_are_compared_as_integers(self):
        self.assertEqual(analytic_bound((), (1, (("p", 0),), ((("p", 0),), (("p", 1),), (("p", 1),)))), 2)
        self.assertEqual(analytic_bound((NAT_S, TRANS), (0, (), ((("q", ("s", 0), 0, 1),), (("nat", 0),)))),
                         27 + 3 + 9 + 9)

    def test_large_bounds(self):
        made = (8, (), ((("p",) + tuple(range(8)),), (("q",) + tuple(("f", number) for number in range(8)),)))
        self.assertEqual(analytic_bound((), made), 2 * 16 ** 8)

    def test_rules_that_are_not_determined(self):
        self.assertEqual(analytic_bound((TRANS,), statement((), (("path", A, B),))), 4 + 4)


class InstancesTest(unittest.TestCase):

    def test_names_in_the_places_of_the_variables(self):
        names = tuple((number, (f"c{number}",)) for number in range(3))
        ground = (0, tuple(substitute(atom, names) for atom in SUM[1]),
                  tuple(tuple(substitute(atom, names) for atom in atoms) for atoms in SUM[2]))
        expected = tuple(substitute(atom, names) for atom in examined_atoms(NATURALS, SUM))
        self.assertEqual(examined_atoms(NATURALS, ground), expected)

    def test_the_sample_rules_are_valid(self):
        for rule in (TRANS,) + CheckTrueTest.rules + AllDecisionsTest.rules:
            self.assertTrue(is_valid_rule(rule))
            self.assertEqual(numbered_rule(rule), rule)


if __name__ == "__main__":
    unittest.main()
