"""Proofs [160] to [164]."""

import inspect
import itertools
import unittest

from openrules.arguments import applied_claims, argument_depth, argument_of, inverted_atoms
from openrules.arguments import step_count, steps_of, trimmed
from openrules.deciding import check_decision, decide
from openrules.errors import HasExistentials, TooLarge, WrongDecision
from openrules.goals import initial_goal
from openrules.kernel import check_argument
from openrules.statements import is_valid_statement, numbered_statement
from samples import ADD_S, FINISH, FIRST, GOAL, LATER, NATURALS, ONE, RIGHT, Z, broad, chain, nested

A, B = ("a",), ("b",)
P, Q, R = ("p",), ("q",), ("r",)
DONE = (("done", 0, ()), ())
CASES = ("natCases", (1, (("nat", 0),), ((("=", 0, Z),), (("=", 0, ("s", 1)), ("nat", 1)))), ())
SOME = ("some", (1, (("nat", 0),), ((("add", 1, 1, 0),),)), ())
TWICE = ("twice", (1, (("nat", 0),), ((("even", 0), ("odd", 0)),)), ())
NEVER = ("never", (1, (("nat", ("t", 0)),), ()), ())
WIDE = (NATURALS, ((True, (RIGHT,)), (False, (CASES,)), (False, (SOME,)), (False, (TWICE,)), (False, (NEVER,))))


def chained(argument):
    """The steps of a proof each of which has at most one part."""
    return tuple(step for _, step in steps_of(argument))


class SizesTest(unittest.TestCase):

    def test_one_step(self):
        self.assertEqual((step_count(DONE), argument_depth(DONE)), (1, 1))

    def test_parts(self):
        argument = (("invert", 0), (("a", DONE), ("b", LATER), ("c", FIRST)))
        self.assertEqual((step_count(LATER), argument_depth(LATER)), (3, 3))
        self.assertEqual((step_count(argument), argument_depth(argument)), (1 + 1 + 3 + 2, 4))
        self.assertEqual((step_count((("invert", 0), ())), argument_depth((("invert", 0), ()))), (1, 1))

    def test_long_and_wide(self):
        argument = DONE
        for _ in range(59):
            argument = (("invert", 0), (("a", argument), ("b", DONE)))
        self.assertEqual((step_count(argument), argument_depth(argument)), (119, 60))
        wide = (("invert", 0), 30 * (("a", DONE),))
        self.assertEqual((step_count(wide), argument_depth(wide)), (31, 2))


class StepsTest(unittest.TestCase):

    def test_example(self):
        expected = [((), ("apply", "addZero", (0,), (1,))), ((0,), ("rule", "addS", (0, Z, 0), (2,))),
                    ((0, 0), ("done", 0, ()))]
        self.assertEqual(list(steps_of(LATER)), expected)

    def test_a_generator(self):
        found = steps_of(LATER)
        self.assertTrue(inspect.isgenerator(found))
        self.assertEqual(next(found)[0], ())
        self.assertEqual(next(found)[0], (0,))
        self.assertEqual(len(list(found)), 1)
        self.assertEqual(list(found), [])

    def test_each_part_completely_before_the_next(self):
        inner = (("invert", 1), (("x", (("done", 1, ()), ())), ("y", (("done", 2, ()), ()))))
        argument = (("invert", 0), (("a", inner), ("b", (("done", 3, ()), ())), ("c", inner)))
        expected = [((), ("invert", 0)), ((0,), ("invert", 1)), ((0, 0), ("done", 1, ())), ((0, 1), ("done", 2, ())),
                    ((1,), ("done", 3, ())), ((2,), ("invert", 1)), ((2, 0), ("done", 1, ())),
                    ((2, 1), ("done", 2, ()))]
        self.assertEqual(list(steps_of(argument)), expected)

    def test_proofs_that_are_accepted_by_nothing(self):
        argument = (("done", 999, (7,)), (("zz", (("rule", "none", (5,), (999,)), ())), ("", (("invert", 999), ()))))
        expected = [((), argument[0]), ((0,), ("rule", "none", (5,), (999,))), ((1,), ("invert", 999))]
        self.assertEqual(list(steps_of(argument)), expected)

    def test_as_defined(self):
        def slow(argument, path=()):
            found = [(path, argument[0])]
            for place, (_, part) in enumerate(argument[1]):
                found += slow(part, path + (place,))
            return found
        argument = DONE
        for number in range(7):
            argument = (("invert", number), (("a", argument), ("b", LATER), ("", argument)))
        self.assertEqual(list(steps_of(argument)), slow(argument))


class UsedTest(unittest.TestCase):

    def test_applied_theorems(self):
        self.assertEqual(applied_claims(LATER), ("addZero",))
        self.assertEqual(applied_claims(FIRST), ())
        self.assertEqual(applied_claims((("invert", 0), (("natS", LATER), ("natZ", FIRST)))), ("addZero",))

    def test_in_the_order_of_the_steps_and_each_once(self):
        def apply(name, *parts):
            return (("apply", name, (), ()), tuple(("", part) for part in parts))
        argument = apply("c", apply("b", DONE, apply("a")), apply("b", apply("d")), apply("c"), apply("a"))
        self.assertEqual(applied_claims(argument), ("c", "b", "a", "d"))

    def test_rules_are_not_applied(self):
        self.assertEqual(applied_claims((("rule", "addZero", (), ()),
                                         (("", DONE), ("", (("apply", "x", (), ()), ()))))), ("x",))

    def inverted(self, argument, goal, claim="addZero", scope=WIDE):
        self.assertIsNone(check_argument(scope, claim, goal, argument))
        return inverted_atoms(scope, claim, goal, argument)

    def test_inverted_atoms(self):
        whole = (("invert", 0), (("natS", LATER), ("natZ", FIRST)))
        self.assertEqual(self.inverted(whole, initial_goal(RIGHT)), (("nat", 0),))
        self.assertEqual(self.inverted(LATER, GOAL), ())
        argument = chain(LATER[0], ("rule", "addS", (0, Z, 0), (3,)), ("done", 0, ()))
        self.assertEqual(self.inverted((("invert", 0), (("natS", argument),)), GOAL), (("nat", ("s", 0)),))

    def test_each_numbered_alone(self):
        hypotheses = ((("nat", 0), None), (("add", 1, 2, 1), None), (("add", 0, Z, 0), None))
        goal = ((0,), hypotheses)
        argument = (("invert", 1), (("addS", DONE), ("addZ", DONE)))
        self.assertEqual(self.inverted(argument, goal), (("add", 0, 1, 0),))

    def test_each_once_in_the_order_of_the_steps(self):
        goal = ((0,), ((("nat", 1), None), (("nat", 2), None), (("add", 0, Z, 0), None), (("nat", ONE), None)))
        inner = (("invert", 1), (("natS", (("invert", 3), (("natS", DONE),))), ("natZ", DONE)))
        argument = (("invert", 0), (("natS", inner), ("natZ", (("invert", 0), (("natZ", DONE),)))))
        self.assertEqual(self.inverted(argument, goal), (("nat", 0), ("nat", ONE), ("nat", Z)))

    def test_the_atoms_of_the_goals_that_are_reached(self):
        """The same hypothesis becomes another atom by an inversion before it."""
        goal = ((0,), ((("nat", 0), None), (("add", 0, Z, 0), None)))
        inner = (("invert", 0), (("natS", (("invert", 2), (("natS", DONE), ("natZ", DONE)))),))
        argument = (("invert", 0), (("natS", inner), ("natZ", DONE)))
        self.assertEqual(self.inverted(argument, goal), (("nat", 0), ("nat", ("s", 0))))

    def test_equations(self):
        goal = ((0,), ((("=", 1, ("s", 2)), None), (("add", 0, Z, 0), None)))
        self.assertEqual(self.inverted((("invert", 0), (("refl", DONE),)), goal), (("=", 0, ("s", 1)),))
        goal = ((0,), ((("=", ("s", 0), Z), None),))
        self.assertEqual(self.inverted((("invert", 0), ()), goal), (("=", ("s", 0), Z),))

    def test_in_parts_of_applied_theorems(self):
        goal = ((0,), ((("nat", 0), None), (("add", 0, Z, 0), None)))
        argument = (("apply", "natCases", (0,), (0,)),
                    (("", (("invert", 2), (("refl", DONE),))), ("", (("invert", 3), (("natS", DONE), ("natZ", DONE))))))
        self.assertEqual(self.inverted(argument, goal), (("=", 0, Z), ("nat", 0)))


class TrimmedTest(unittest.TestCase):

    def trims(self, expected, argument, goal=GOAL, claim="addZero", scope=WIDE):
        self.assertIsNone(check_argument(scope, claim, goal, argument))
        self.assertIsNone(check_argument(scope, claim, goal, expected))
        self.assertEqual(trimmed(scope, claim, goal, argument), expected)
        self.assertEqual(trimmed(scope, claim, goal, expected), expected)

    def test_example(self):
        argument = chain(("rule", "refl", (0,), ()), ("rule", "natZ", (), ()), ("apply", "addZero", (0,), (1,)),
                         ("rule", "addS", (0, Z, 0), (4,)), ("done", 0, ()))
        self.trims(LATER, argument)

    def test_nothing_to_remove(self):
        self.trims(LATER, LATER)
        self.trims(DONE, DONE, ((0,), ((("add", 0, Z, 0), None),)))
        whole = (("invert", 0), (("natS", LATER), ("natZ", FIRST)))
        self.trims(whole, whole, initial_goal(RIGHT))

    def test_everything_before_the_end(self):
        goal = ((0,), ((("nat", 0), None), (("add", 0, Z, 0), None)))
        argument = chain(("rule", "natS", (0,), (0,)), ("rule", "natS", (("s", 0),), (2,)),
                         ("apply", "twice", (0,), (0,)),
                         ("rule", "refl", (Z,), ()), ("done", 0, ()))
        self.trims(DONE, argument, goal)

    def test_chains_that_only_removed_steps_use(self):
        first, second, last = chained(LATER)
        useless = [("rule", "natS", (nested(count, ("s", 0)),), (count and count + 1,)) for count in range(6)]
        self.trims(LATER, chain(*useless, first, second[:3] + ((8,),), last))
        useless = [("rule", "natS", (nested(count, ("s", 0)),), (count and count + 2,)) for count in range(6)]
        self.trims(LATER, chain(first, *useless, second, last))
        self.trims(LATER, chain(first, second, *useless[:1], last))

    def test_a_step_that_a_step_uses_that_is_not_removed(self):
        goal = ((0,), ((("nat", 0), None), (("add", 0, Z, 0), None)))
        end = ("apply", "some", (("s", 0),), (2,))
        argument = chain(("rule", "natS", (0,), (0,)), ("rule", "natZ", (), ()), end, ("done", 0, ()))
        self.trims(chain(argument[0], end, ("done", 0, ())), argument, goal)

    def test_apply_steps_that_stay(self):
        """Several disjuncts, none, and existential variables."""
        goal = ((0,), ((("nat", 0), None), (("add", 0, Z, 0), None), (("nat", ("t", 0)), None)))
        split = (("apply", "natCases", (0,), (0,)), (("", DONE), ("", DONE)))
        self.trims(split, split, goal)
        self.trims((("apply", "never", (0,), (2,)), ()), (("apply", "never", (0,), (2,)), ()), goal)
        self.trims(chain(("apply", "some", (0,), (0,)), ("done", 0, ())),
                   chain(("apply", "some", (0,), (0,)), ("done", 0, ())), goal)
        self.trims(DONE, chain(("apply", "twice", (0,), (0,)), ("done", 0, ())), goal)

    def test_parts_of_steps_that_stay(self):
        goal = ((0,), ((("nat", 0), None), (("add", 0, Z, 0), None)))
        part = chain(("rule", "refl", (0,), ()), ("done", 0, ()))
        deeper = (("rule", "natZ", (), ()), (("", (("invert", 3), (("natS", part), ("natZ", part)))),))
        argument = (("apply", "natCases", (0,), (0,)), (("", part), ("", deeper)))
        expected = (("apply", "natCases", (0,), (0,)),
                    (("", DONE), ("", (("invert", 3), (("natS", DONE), ("natZ", DONE))))))
        self.trims(expected, argument, goal)

    def test_inversions_use_and_stay(self):
        goal = ((0,), ((("nat", 0), None), (("add", 0, Z, 0), None)))
        inner = (("invert", 2), (("natS", DONE),))
        argument = (("rule", "natS", (0,), (0,)), (("", (("rule", "natZ", (), ()), (("", inner),))),))
        self.trims((("rule", "natS", (0,), (0,)), (("", inner),)), argument, goal)

    def test_numbers_of_inverted_hypotheses_decrease(self):
        goal = ((0,), ((("nat", 0), None), (("add", 0, Z, 0), None)))
        argument = (("rule", "natZ", (), ()),
                    (("", (("rule", "natS", (0,), (0,)), (("", (("invert", 3), (("natS", DONE),))),))),))
        self.trims((("rule", "natS", (0,), (0,)), (("", (("invert", 2), (("natS", DONE),))),)), argument, goal)
        cases = [(("invert", 0), (("natS", (("invert", number), (("natS", DONE), ("natZ", DONE)))), ("natZ", DONE)))
                 for number in (2, 3)]
        self.trims(cases[0], (("rule", "natZ", (), ()), (("", cases[1]),)), goal)

    def test_numbers_before_and_behind(self):
        """The numbers of hypotheses before a removed step stay, those behind it decrease by what it added."""
        argument = chain(("apply", "addZero", (0,), (1,)), ("apply", "twice", (0,), (1,)),
                         ("rule", "addS", (0, Z, 0), (2,)),
                         ("rule", "natZ", (), ()), ("apply", "some", (("s", 0),), (0,)), ("done", 0, ()))
        expected = chain(("apply", "addZero", (0,), (1,)), ("rule", "addS", (0, Z, 0), (2,)),
                         ("apply", "some", (("s", 0),), (0,)), ("done", 0, ()))
        self.trims(expected, argument)
        argument = chain(("apply", "twice", (0,), (1,)), ("apply", "addZero", (0,), (1,)),
                         ("apply", "twice", (0,), (1,)),
                         ("rule", "addS", (0, Z, 0), (4,)), ("done", 0, ()))
        self.trims(LATER, argument)

    def test_several_hypotheses_of_one_step(self):
        claim = ("wanted", (1, (("nat", 0),), ((("odd", 0),),)), ())
        scope = (NATURALS, WIDE[1] + ((False, (claim,)),))
        goal = ((0,), ((("nat", 0), None),))
        argument = chain(("rule", "refl", (0,), ()), ("apply", "twice", (0,), (0,)), ("done", 0, ()))
        self.trims(chain(("apply", "twice", (0,), (0,)), ("done", 0, ())), argument, goal, "wanted", scope)

    def test_the_first_hypothesis_that_has_the_atom(self):
        """A second step that adds the same atom again is of no use for done, but is used by its number."""
        argument = chain(("apply", "addZero", (0,), (1,)), ("apply", "addZero", (0,), (1,)),
                         ("rule", "addS", (0, Z, 0), (3,)),
                         ("rule", "addS", (0, Z, 0), (2,)), ("done", 0, ()))
        expected = chain(("apply", "addZero", (0,), (1,)), ("rule", "addS", (0, Z, 0), (2,)), ("done", 0, ()))
        self.trims(expected, argument)
        goal = ((0,), ((("add", 0, Z, 0), None), (("nat", 0), None)))
        argument = chain(("rule", "natZ", (), ()), ("rule", "natZ", (), ()), ("apply", "some", (Z,), (3,)),
                         ("done", 0, ()))
        self.trims(chain(("rule", "natZ", (), ()), ("apply", "some", (Z,), (2,)), ("done", 0, ())), argument, goal)

    def test_done_uses_each_atom_of_its_disjunct(self):
        claim = ("pair", (1, (("nat", 0),), ((("nat", ("s", 0)), ("nat", Z), ("=", 1, 1)),)), ())
        scope = (NATURALS, WIDE[1] + ((False, (claim,)),))
        steps = [("rule", "natZ", (), ()), ("rule", "natS", (0,), (0,)), ("rule", "refl", (Z,), ()),
                 ("rule", "refl", (ONE,), ())]
        for place in range(2, 4):
            kept = steps[:2] + steps[place:place + 1]
            for order in itertools.permutations(steps):
                expected = [step for step in order if step in kept] + [("done", 0, steps[place][2])]
                self.trims(chain(*expected), chain(*order, expected[-1]), ((0,), ((("nat", 0), None),)), "pair", scope)

    def test_atoms_that_become_equal_by_inversion(self):
        """After the inversion both rule steps have added nat(s(z)); done uses the first one only."""
        claim = ("one", (1, (("=", 0, Z),), ((("nat", ("s", 0)),),)), ())
        scope = (NATURALS, WIDE[1] + ((False, (claim,)),))
        goal = ((0,), ((("=", 0, Z), None), (("nat", 0), None), (("nat", Z), None)))
        first, second = ("rule", "natS", (0,), (1,)), ("rule", "natS", (Z,), (2,))
        end = (("invert", 0), (("refl", DONE),))
        for order in ((first, second), (second, first)):
            argument = (order[0], (("", (order[1], (("", end),))),))
            self.trims((order[0], (("", end),)), argument, goal, "one", scope)

    def test_against_the_definition(self):
        """Proofs of rule steps that use each other in all ways, against a slow version with names for hypotheses."""
        rules = (("zero", (), P), ("one", (P,), P), ("two", (P, P), Q), ("last", (Q,), R))
        scope = (rules, ((False, (("goal", (0, (), ((R,), (P,))), ()),)),))
        ways = [[("zero", ())], [("one", (0,)), ("zero", ())], [("one", (1,)), ("two", (0, 0)), ("two", (1, 0))],
                [("one", (0,)), ("zero", ()), ("two", (0, 1))], [("two", (0, 1)), ("two", (1, 1))],
                [("last", (2,)), ("last", (4,))]]
        tried = 0
        for chosen in itertools.product(*ways):
            for disjunct in range(2):
                steps = [("rule", name, (), numbers) for name, numbers in chosen] + [("done", disjunct, ())]
                argument = chain(*steps)
                if check_argument(scope, "goal", ((), ()), argument) is None:
                    tried += 1
                    expected = chain(*self.slow(chosen, disjunct))
                    self.trims(expected, argument, ((), ()), "goal", scope)
        self.assertGreater(tried, 30)

    def slow(self, chosen, disjunct):
        added = {"zero": P, "one": P, "two": Q, "last": R}
        atoms = [added[name] for name, _ in chosen]
        needed = {atoms.index((R, P)[disjunct])}
        for _ in chosen:
            needed |= {number for place in needed for number in chosen[place][1]}
        order = sorted(needed)
        kept = [("rule", chosen[place][0], (), tuple(order.index(number) for number in chosen[place][1]))
                for place in order]
        return kept + [("done", disjunct, ())]

    def test_long_proofs(self):
        goal = ((0,), ((("nat", 0), None), (("add", 0, Z, 0), None)))
        steps = 27 * [("rule", "natZ", (), ())]
        self.trims(DONE, chain(*steps, ("done", 0, ())), goal)
        used = [("rule", "natS", (nested(count, Z),), (count + 2,)) for count in range(9)]
        argument = chain(steps[0], *used, ("apply", "some", (nested(9, Z),), (11,)), ("done", 0, ()))
        self.trims(argument, argument, goal)

    def test_wide_proofs(self):
        goal = ((0,), ((("nat", 0), None), (("add", 0, Z, 0), None)))
        argument, expected = chain(("rule", "natZ", (), ()), ("done", 0, ())), DONE
        for _ in range(4):
            argument = (("apply", "natCases", (0,), (0,)), (("", argument), ("", argument)))
            argument = (("rule", "refl", (0,), ()), (("", argument),))
            expected = (("apply", "natCases", (0,), (0,)), (("", expected), ("", expected)))
        self.trims(expected, argument, goal)


class ArgumentOfTest(unittest.TestCase):

    def becomes(self, expected, rules, statement, decision):
        self.assertTrue(is_valid_statement(statement))
        self.assertTrue(check_decision(rules, statement, decision))
        argument = argument_of(rules, statement, decision)
        self.assertEqual(argument, expected)
        claim = ("claim", statement, ())
        self.assertIsNone(check_argument((rules, ((False, (claim,)),)), "claim", initial_goal(claim), argument))

    def test_examples(self):
        statement = (3, (("add", 0, 1, 2),), ((("add", ("s", 0), 1, ("s", 2)),),))
        decision = (True, 0, ((("add", 0, 1, 2), None, ()), (("add", ("s", 0), 1, ("s", 2)), "addS", (0,))), ())
        self.becomes((("rule", "addS", (0, 1, 2), (0,)), FINISH), (ADD_S,), statement, decision)
        statement = (3, (("add", 0, 1, 2),), ((("nat", 0),), (("add", ("s", 0), 1, ("s", 2)),)))
        expected = chain(("rule", "addS", (0, 1, 2), (0,)), ("done", 1, ()))
        self.becomes(expected, NATURALS, statement, decide(NATURALS, statement))

    def test_a_premise_alone(self):
        self.becomes(DONE, (), (0, (Q, P), ((P,),)), (True, 0, ((P, None, ()),), ()))
        self.becomes((("done", 1, ()), ()), (), (0, (Q, P), ((R,), (P, Q))),
                     (True, 1, ((P, None, ()), (Q, None, ())), ()))

    def test_the_first_premise_that_is_the_atom(self):
        rules = (("r", (P, Q), R),)
        decision = (True, 0, ((P, None, ()), (Q, None, ()), (R, "r", (0, 1))), ())
        self.becomes(chain(("rule", "r", (), (1, 0)), ("done", 0, ())), rules, (0, (Q, P, P, Q), ((R,),)), decision)

    def test_the_first_step_with_each_atom(self):
        rules = (("a", (), P), ("b", (), P), ("c", (P,), Q), ("d", (Q,), P))
        steps = ((P, "b", ()), (P, "a", ()), (Q, "c", (1,)), (P, "d", (2,)), (Q, "c", (0,)))
        self.becomes(chain(("rule", "b", (), ()), ("done", 0, ())), rules, (0, (), ((P,),)), (True, 0, steps, ()))
        expected = chain(("rule", "a", (), ()), ("rule", "c", (), (0,)), ("done", 0, ()))
        self.becomes(expected, rules, (0, (), ((Q,),)), (True, 0, steps, ()))
        expected = chain(("rule", "b", (), ()), ("rule", "a", (), ()), ("rule", "c", (), (1,)), ("done", 0, ()))
        self.becomes(expected, rules, (0, (), ((Q, P),)), (True, 0, steps, ()))

    def test_steps_that_are_not_needed(self):
        rules = (("a", (), P), ("b", (P,), Q), ("c", (Q,), R))
        steps = ((("x",), None, ()), (P, "a", ()), (Q, "b", (1,)), (R, "c", (2,)))
        statement = (0, (("x",),), ((Q,),))
        expected = chain(("rule", "a", (), ()), ("rule", "b", (), (1,)), ("done", 0, ()))
        self.becomes(expected, rules, statement, (True, 0, steps, ()))

    def test_needed_steps_in_the_order_of_the_decision(self):
        rules = (("a", (), P), ("b", (), Q), ("c", (Q, P), R))
        steps = ((P, "a", ()), (Q, "b", ()), (R, "c", (1, 0)))
        expected = chain(("rule", "a", (), ()), ("rule", "b", (), ()), ("rule", "c", (), (1, 0)), ("done", 0, ()))
        self.becomes(expected, rules, (0, (), ((R,),)), (True, 0, steps, ()))
        steps = (steps[1], steps[0], (R, "c", (0, 1)))
        expected = chain(("rule", "b", (), ()), ("rule", "a", (), ()), ("rule", "c", (), (0, 1)), ("done", 0, ()))
        self.becomes(expected, rules, (0, (), ((R,),)), (True, 0, steps, ()))

    def test_a_step_that_is_used_twice(self):
        rules = (("a", (), P), ("b", (P, P), Q), ("c", (Q, P, Q), R))
        steps = ((P, "a", ()), (Q, "b", (0, 0)), (R, "c", (1, 0, 1)))
        expected = chain(("rule", "a", (), ()), ("rule", "b", (), (1, 1)), ("rule", "c", (), (2, 1, 2)),
                         ("done", 0, ()))
        self.becomes(expected, rules, (0, (("x",),), ((R, Q),)), (True, 0, steps, ()))

    def test_variables_that_occur_in_premises_only(self):
        rules = (("path", (("edge", 0, 2), ("edge", 2, 1)), ("path", 0, 1)),)
        statement = numbered_statement((("edge", 0, 1), ("edge", 1, 2)), (((), (("path", 0, 2),)),))
        decision = (True, 0,
                    ((("edge", 1, 2), None, ()), (("edge", 0, 1), None, ()), (("path", 0, 2), "path", (1, 0))), ())
        self.becomes(chain(("rule", "path", (0, 2, 1), (0, 1)), ("done", 0, ())), rules, statement, decision)

    def test_refl(self):
        statement = (1, (("p", 0),), ((("=", ("s", 0), ("s", 0)),),))
        expected = chain(("rule", "refl", (("s", 0),), ()), ("done", 0, ()))
        self.becomes(expected, (), statement, decide((), statement))

    def test_decisions(self):
        rules = (("evZ", (), ("even", Z)), ("evS", (("odd", 0),), ("even", ("s", 0))),
                 ("odS", (("even", 0),), ("odd", ("s", 0))))
        atoms = [("even", 0), ("odd", ("s", ("s", 0))), ("odd", nested(3, Z)), ("even", ("s", 0)), ("odd", 0)]
        found = 0
        for first, second, third in itertools.product(atoms, repeat=3):
            statement = numbered_statement((first,), (((), (second, third)),))
            decision = decide(rules, statement)
            if decision[0]:
                found += 1
                argument = argument_of(rules, statement, decision)
                claim = ("claim", statement, ())
                self.assertIsNone(check_argument((rules, ((False, (claim,)),)), "claim", initial_goal(claim), argument))
            else:
                with self.assertRaises(WrongDecision):
                    argument_of(rules, statement, decision)
        self.assertGreater(found, 20)


class ArgumentErrorsTest(unittest.TestCase):

    def refused(self, error, *arguments):
        with self.assertRaises(error):
            argument_of(*arguments)

    def test_existentials(self):
        self.refused(HasExistentials, (), (0, (), ((("p", 0),),)), (False, None, (), ()))
        self.refused(HasExistentials, (), (0, (), ((P,), (("p", 0),))), (True, 0, 40 * ((P, None, ()),), ()))

    def test_wrong_decisions(self):
        statement = (0, (P,), ((P,), (Q,)))
        for decision in ((True, 1, ((P, None, ()),), ()), (True, None, ((P, None, ()),), ()), (True, 0, (), ()),
                         (True, 0, ((P, None, ()), (Q, None, ())), ()),
                         (True, 0, ((P, None, ()), (P, "refl", (0,))), ())):
            self.refused(WrongDecision, (), statement, decision)

    def test_false(self):
        statement = (0, (), ((P,),))
        self.assertTrue(check_decision((), statement, (False, None, (), (P,))))
        self.refused(WrongDecision, (), statement, (False, None, (), (P,)))
        self.refused(WrongDecision, (), statement, (False, 0, (), (P,)))

    def test_wrong_before_too_large(self):
        rules = (("a", (), P), ("b", (P,), P))
        steps = ((P, "a", ()),) + tuple((P, "b", (place,)) for place in range(30)) + ((Q, "c", (30,)),)
        self.refused(WrongDecision, rules, (0, (), ((Q,),)), (True, 0, steps, ()))

    def decided(self, count):
        """Rules, a statement and a decision with this number of needed rule steps."""
        rules = (("a", (), P), ("b", (P,), P), ("c", (P,), Q))
        steps = ((P, "a", ()),) + tuple((P, "b", (place,)) for place in range(count - 2)) + ((Q, "c", (count - 2,)),)
        return rules, (0, (), ((Q,),)), (True, 0, steps, ())

    def test_number_of_steps(self):
        argument = argument_of(*self.decided(29))
        self.assertEqual((step_count(argument), argument_depth(argument)), (30, 30))
        self.refused(TooLarge, *self.decided(30))
        self.refused(TooLarge, *self.decided(31))

    def test_only_needed_steps_count(self):
        rules, statement, decision = self.decided(29)
        more = 100 * ((P, "a", ()),)
        argument = argument_of(rules, statement, decision[:2] + (decision[2] + more, ()))
        self.assertEqual(step_count(argument), 30)
        self.refused(TooLarge, rules, statement, decision[:2] + (more + tuple(
            (atom, name, tuple(place + 100 for place in places)) for atom, name, places in self.decided(30)[2][2]), ()))

    def test_the_number_of_hypotheses(self):
        rules, _, decision = self.decided(29)
        self.assertEqual(step_count(argument_of(rules, (0, (R,), ((Q,),)), decision)), 30)
        self.refused(TooLarge, rules, (0, (R, R), ((Q,),)), decision)
        rules, _, decision = self.decided(28)
        self.assertEqual(step_count(argument_of(rules, (0, (R, R), ((Q,),)), decision)), 29)

    def test_foreign_variables(self):
        rules = (("all", (), ("p", 0)), ("q", (("p", 0),), Q))
        steps = ((("p", 0), "all", ()), (Q, "q", (0,)))
        self.refused(TooLarge, rules, (0, (), ((Q,),)), (True, 0, steps, ()))
        statement = (1, (("t", 0),), ((Q,),))
        self.assertEqual(step_count(argument_of(rules, statement, (True, 0, steps, ()))), 3)
        steps = ((("p", 1), "all", ()), (Q, "q", (0,)))
        self.refused(TooLarge, rules, statement, (True, 0, steps, ()))
        unused = ((("p", 1), "all", ()), (("p", Z), "all", ()), (Q, "q", (1,)))
        self.assertEqual(step_count(argument_of(rules, statement, (True, 0, unused, ()))), 3)

    def test_sizes(self):
        rules = (("all", (), ("p", ("f", 0, 0))), ("q", (("p", ("f", 0, 0)),), Q))
        for count in (29, 30, 60, 61):
            atom = ("p", ("f", broad(count), broad(count)))
            decision = (True, 0, ((atom, "all", ()), (Q, "q", (0,))), ())
            if count == 29:
                self.assertEqual(step_count(argument_of(rules, (0, (), ((Q,),)), decision)), 3)
            else:
                self.refused(TooLarge, rules, (0, (), ((Q,),)), decision)

    def test_depths(self):
        rules = (("all", (), ("p", 0)), ("q", (("p", 0),), Q))
        for count, fits in ((10, True), (11, False), (12, False), (19, False)):
            decision = (True, 0, ((("p", nested(count, Z)), "all", ()), (Q, "q", (0,))), ())
            if fits:
                self.assertEqual(step_count(argument_of(rules, (0, (), ((Q,),)), decision)), 3)
            else:
                self.refused(TooLarge, rules, (0, (), ((Q,),)), decision)

    def test_the_sum_of_the_sizes(self):
        atoms = tuple(("p", broad(49, (name,))) for name in ("a", "b", "c", "d", "e", "g", "h", "i"))
        facts = tuple((f"all{place}", (), atom) for place, atom in enumerate(atoms))
        rules = facts + (("need", atoms[:4], Q), ("more", (Q,) + atoms[4:7], R))
        for count in (7, 8):
            steps = tuple((atom, name, ()) for name, _, atom in facts[:count])
            steps += ((Q, "need", (0, 1, 2, 3)), (R, "more", (count, 4, 5, 6)))
            statement = (0, (), ((R,) + atoms[7:count],))
            self.assertTrue(check_decision(rules, statement, (True, 0, steps, ())))
            if count == 7:
                self.assertEqual(step_count(argument_of(rules, statement, (True, 0, steps, ()))), 10)
            else:
                self.refused(TooLarge, rules, statement, (True, 0, steps, ()))


if __name__ == "__main__":
    unittest.main()
