"""Systems [220], and carrying out theorems [221] to [224]."""

import itertools
import unittest

from openrules.deciding import decide
from openrules.derivations import fact_of, height_of, rules_in
from openrules.errors import LinkProblems, NotDetermined, TooLarge, UnknownClaim, WrongDerivation
from openrules.linking import problems_of
from openrules.machine import run_plan
from openrules.modules import members_of, summaries_of
from openrules.plans import plan_of
from openrules.systems import System, link
from openrules.terms import substitute
from samples import ADD_S, ADD_T, ADD_Z, FINISH, NAT_S, NAT_T, NAT_Z, NATURALS, ONE, RIGHT, TWO, Z
from samples import arithmetic, broad, chain, module, nested, number
from slow import Carrier, Large

P, Q, R = ("p",), ("q",), ("r",)
DONE = (("done", 0, ()), ())


def fact(name, atom=P):
    """A rule without premises."""
    return (name, (), atom)


def plain(name, statement):
    """A block of one theorem that is not open."""
    return (False, ((name, statement, ()),))


def cases(name, statement, *induction):
    """A block of one open theorem."""
    return (True, ((name, statement, induction),))


def sum_of(count):
    """The derivation of add(n, z, n) for a number n."""
    derivation = ("addZ", (Z,), ())
    for place in range(count):
        derivation = ("addS", (nested(place, Z), Z, nested(place, Z)), (derivation,))
    return derivation


class SystemsTest(unittest.TestCase):

    def refused(self, error, attributes, function, *arguments):
        with self.assertRaises(error) as caught:
            function(*arguments)
        self.assertIs(type(caught.exception), error)
        self.assertEqual(vars(caught.exception), attributes)

    def carries(self, expected, modules, claim, terms, *derivations):
        """Whether the system, its plan, the plan that is made anew and the slow version have this result,
        or all of them raise TooLarge if it is None."""
        system = link(modules)
        entries = tuple(entry for parts, _ in members_of(modules) for entry in parts[4])
        scope = (system.rules[::-1], system.blocks[::-1])
        runs = [lambda: system.carry_out(claim, terms, derivations),
                lambda: run_plan(system.make_plan(), claim, terms, derivations),
                lambda: run_plan(plan_of(scope, entries[::-1]), claim, terms, derivations)]
        slow = Carrier((system.rules, system.blocks), entries)
        if expected is None:
            for run in runs:
                self.refused(TooLarge, {}, run)
            self.assertRaises(Large, slow.carry_out, claim, terms, derivations)
            return
        for run in runs + [lambda: slow.carry_out(claim, terms, derivations)]:
            self.assertEqual(run(), expected)
        disjunct, found, made = expected
        atoms = dict(system.claims)[claim][2][disjunct]
        facts = [substitute(atom, tuple(enumerate(terms + found))) for atom in atoms]
        self.assertEqual([fact_of(system.rules, derivation) for derivation in made], facts)


class LinkTest(SystemsTest):

    def setUp(self):
        self.arith, self.twice, self.cases = arithmetic()

    def test_examples(self):
        one = number(1)
        expected = (0, (), (("addS", (Z, Z, Z), (("addZ", (Z,), ()),)),))
        self.assertEqual(link((self.arith,)).carry_out("addZero", (ONE,), (one,)), expected)
        self.refused(LinkProblems, {"problems": (("missing case", "addZero", "natT"),)}, link, (self.twice,))
        expected = (0, (), (("addT", (Z, Z, Z), (("addZ", (Z,), ()),)),))
        system = link((self.cases,))
        self.assertEqual(system.carry_out("addZero", (("t", Z),), (("natT", (Z,), (("natZ", (), ()),)),)), expected)
        system = link((self.cases, self.arith))
        self.assertEqual((len(system), "addZero" in system, list(system)), (1, True, ["addZero"]))
        self.refused(WrongDerivation, {"place": 0}, system.carry_out, "addZero", (Z,), (one,))
        self.assertEqual(system.decide((1, (("nat", 0),), ((("nat", ("t", 0)),),)))[:2], (True, 0))

    def test_the_order_of_modules_does_not_matter(self):
        derivation = ("natT", (ONE,), (number(1),))
        told = []
        for modules in itertools.permutations((self.arith, self.twice, self.cases)):
            system = link(modules)
            told.append((system.rules, system.blocks, system.claims, system.make_plan(), list(system), len(system),
                         system.carry_out("addZero", (("t", ONE),), (derivation,))))
        self.assertEqual(told, 6 * told[:1])
        self.assertEqual(told[0][0], (ADD_S, ADD_T, ADD_Z, NAT_S, NAT_T, NAT_Z))
        self.assertEqual(told[0][3], link((self.cases,)).make_plan())

    def test_modules_that_are_passed_twice(self):
        system = link(3 * (self.cases, self.arith, self.cases, self.twice))
        self.assertEqual((len(system), len(system.rules), system.make_plan()), (1, 6, link((self.cases,)).make_plan()))
        again, _, _ = arithmetic()
        self.assertEqual(link((self.arith, again)).make_plan(), link((again,)).make_plan())

    def test_imports_in_common(self):
        one = module("one", self.arith, rules=(fact("x"),))
        two = module("two", self.arith, one, rules=(fact("y", Q),))
        three = module("three", one, self.arith)
        for modules in itertools.permutations((one, two, three)):
            system = link(modules)
            self.assertEqual([rule[0] for rule in system.rules], ["addS", "addZ", "natS", "natZ", "x", "y"])
            self.assertEqual(system.blocks, ((True, (RIGHT,)),))

    def test_problems_are_those_of_the_summaries(self):
        twin = module("arith", rules=NATURALS)
        for modules in ((self.twice,), (self.arith, twin), (twin, self.twice),
                        (twin, module("b", rules=(fact("natS"),)))):
            problems = problems_of(summaries_of(modules))
            self.assertTrue(problems)
            self.refused(LinkProblems, {"problems": problems}, link, modules)

    def test_again_and_again(self):
        system = link((self.arith,))
        for _ in range(3):
            other = link((self.cases,))
            self.assertEqual(link((self.arith,)).make_plan(), system.make_plan())
            self.assertEqual(link((self.cases,)).make_plan(), other.make_plan())
            self.assertEqual((len(system.rules), len(other.rules)), (4, 6))
            self.assertEqual(self.arith.summary[4][0], ("addZero", "natZ", (), ()))

    def test_number_of_modules(self):
        made = [module("m0")]
        for place in range(1, 6):
            made.append(module(f"m{place}", made[-1]))
        other = module("other")
        self.assertEqual(len(link((made[5], made[3]))), 0)
        self.refused(TooLarge, {}, link, (made[5], other))
        self.assertEqual(len(link((other, made[4]))), 0)
        self.refused(TooLarge, {}, link, tuple(module("same", rules=(fact(name),)) for name in "abcdefg"))
        self.refused(LinkProblems, {"problems": (("duplicate module", "same"),)}, link,
                     tuple(module("same", rules=(fact(name),)) for name in "abcdef"))

    def test_numbers_of_rules_and_theorems(self):
        rules = tuple(fact(f"r{place}") for place in range(25))
        half = module("half", rules=rules[:12])
        self.assertEqual(len(link((half, module("rest", rules=rules[12:24]))).rules), 24)
        self.refused(TooLarge, {}, link, (half, module("rest", rules=rules[12:])))
        self.refused(TooLarge, {}, link, (half, module("rest", rules=rules[:12]), module("last", rules=rules[:1])))
        blocks = tuple(plain(f"c{place}", (0, (P,), ((P,),))) for place in range(13))
        entries = tuple((f"c{place}", None, DONE) for place in range(13))
        first = module("first", blocks=blocks[:6], entries=entries[:6])
        self.assertEqual(len(link((first, module("next", blocks=blocks[6:12], entries=entries[6:12])))), 12)
        self.refused(TooLarge, {}, link, (first, module("next", blocks=blocks[6:], entries=entries[6:])))
        self.refused(TooLarge, {}, link, (first, module("next", blocks=blocks[:6]), module("last", blocks=blocks[:1])))

    def test_too_large_before_problems(self):
        rules = tuple(fact(f"r{place}") for place in range(24))
        self.refused(TooLarge, {}, link, (self.twice, module("more", rules=rules)))


class PropertiesTest(SystemsTest):

    def test_nothing(self):
        system = link((module("m"),))
        self.assertIsInstance(system, System)
        self.assertEqual((system.rules, system.blocks, system.claims, system.make_plan()), ((), (), (), ()))
        self.assertEqual((len(system), list(system), "m" in system), (0, [], False))

    def test_by_name(self):
        statement = (0, (P,), ((P,),))
        blocks = ((False, (("z", statement, ()), ("b", statement, ()))), plain("y", statement), plain("aB", statement))
        entries = tuple((name, None, DONE) for name in ("z", "y", "b", "aB"))
        first = module("first", rules=(fact("x"), fact("wA")), blocks=blocks[:1], entries=entries[:1])
        system = link((module("last", first, rules=(fact("wa"), fact("a")), blocks=blocks[1:], entries=entries[1:]),))
        self.assertEqual([rule[0] for rule in system.rules], ["a", "wA", "wa", "x"])
        self.assertEqual(system.blocks, (blocks[2], blocks[1], blocks[0]))
        self.assertEqual(system.claims, tuple((name, statement) for name in ("aB", "b", "y", "z")))
        self.assertEqual(list(system), ["aB", "b", "y", "z"])
        self.assertEqual([name for name in system], list(system))
        self.assertEqual(len(system), 4)

    def test_in(self):
        system = link((arithmetic()[0],))
        for name, known in (("addZero", True), ("addZ", False), ("refl", False), ("arith", False), ("addzero", False)):
            self.assertIs(name in system, known)

    def test_iterating_twice(self):
        system = link(arithmetic())
        self.assertEqual((list(system), list(system)), (["addZero"], ["addZero"]))
        self.assertEqual(tuple(zip(system, system.claims)), (("addZero", ("addZero", RIGHT[1])),))


class DecideTest(SystemsTest):

    def test_each_by_its_own_rules(self):
        arith, _, cases_of = arithmetic()
        small, large = link((arith,)), link((cases_of,))
        statement = (1, (("nat", 0),), ((("nat", ("t", 0)),),))
        for _ in range(2):
            self.assertEqual(small.decide(statement), decide(NATURALS, statement))
            self.assertEqual(small.decide(statement)[0], False)
            self.assertEqual(large.decide(statement), decide(NATURALS + (NAT_T, ADD_T), statement))
            self.assertEqual(large.decide(statement)[0], True)

    def test_raises(self):
        rules = (("path", (("edge", 0, 2), ("path", 2, 1)), ("path", 0, 1)),)
        system = link((module("m", rules=rules),))
        self.refused(NotDetermined, {"name": "path"}, system.decide, (2, (), ((("path", 0, 1),),)))


class StepsTest(SystemsTest):
    """Each kind of step."""

    natural = (1, (("nat", 0),), ((("=", 0, Z),), (("=", 0, ("s", 1)), ("nat", 1))))
    natural_entries = (
        ("split", "natZ", chain(("rule", "refl", (Z,), ()), ("done", 0, ()))),
        ("split", "natS", chain(("rule", "refl", (("s", 0),), ()), ("done", 1, (0,)))),
    )

    def numbers(self, *blocks, entries=()):
        return (module("m", rules=NATURALS, blocks=(cases("split", self.natural, 0),) + blocks,
                       entries=self.natural_entries + entries),)

    def test_open_theorems(self):
        arith = arithmetic()[:1]
        for count in (0, 1, 2, 10):
            self.carries((0, (), (sum_of(count),)), arith, "addZero", (nested(count, Z),), number(count))

    def test_several_disjuncts_and_existential_variables(self):
        self.carries((0, (), (("refl", (Z,), ()),)), self.numbers(), "split", (Z,), number(0))
        for count in (1, 2, 5):
            expected = (1, (nested(count - 1, Z),), (("refl", (nested(count, Z),), ()), number(count - 1)))
            self.carries(expected, self.numbers(), "split", (nested(count, Z),), number(count))

    def test_the_part_of_the_disjunct_that_resulted(self):
        block = plain("uses", (1, (("nat", 0),), ((("nat", ("s", ("s", 0))),), (("add", 0, Z, 1), ("nat", 1)))))
        parts = (chain(("rule", "addZ", (Z,), ()), ("rule", "natZ", (), ()), ("rule", "natS", (0,), (0,)),
                       ("rule", "natS", (("s", 0),), (4,)), ("done", 0, ())),
                 chain(("rule", "natS", (1,), (2,)), ("rule", "natS", (0,), (0,)), ("rule", "natS", (("s", 0),), (4,)),
                       ("done", 0, ())))
        entry = ("uses", None, (("apply", "split", (0,), (0,)), tuple(("", part) for part in parts)))
        for count in range(4):
            self.carries((0, (), (number(count + 2),)), self.numbers(block, entries=(entry,)), "uses",
                         (nested(count, Z),), number(count))

    def test_variables_that_come_behind_those_of_the_goal(self):
        disjuncts = ((("nat", 1), ("nat", 2), ("=", 0, ("s", 2))), (("nat", Z),))
        block = plain("two", (2, (("nat", 0), ("nat", 1)), disjuncts))
        inner = (("apply", "split", (1,), (1,)), (
            ("", chain(("rule", "natZ", (), ()), ("done", 1, ()))),
            ("", (("done", 0, (2,)), ())),
        ))
        proof = (("apply", "split", (0,), (0,)), (("", chain(("rule", "natZ", (), ()), ("done", 1, ()))), ("", inner)))
        made = self.numbers(block, entries=(("two", None, proof),))
        self.carries((0, (ONE,), (number(3), number(1), ("refl", (TWO,), ()))), made, "two", (TWO, nested(3, Z)),
                     number(2), number(3))
        self.carries((1, (), (("natZ", (), ()),)), made, "two", (TWO, Z), number(2), number(0))
        self.carries((1, (), (("natZ", (), ()),)), made, "two", (Z, TWO), number(0), number(2))

    def test_invert(self):
        block = plain("before", (1, (("nat", ("s", 0)),), ((("nat", 0),),)))
        entry = ("before", None, (("invert", 0), (("natS", (("done", 0, ()), ())),)))
        for count in (0, 1, 3):
            self.carries((0, (), (number(count),)), self.numbers(block, entries=(entry,)), "before",
                         (nested(count, Z),), number(count + 1))

    def test_invert_with_several_parts(self):
        block = plain("ofSum", (3, (("add", 0, 1, 2),), ((("=", 0, Z), ("add", 0, 1, 2)), (("add", 3, 1, 4),))))
        parts = (("addS", (("done", 1, (0, 2)), ())), ("addZ", chain(("rule", "refl", (Z,), ()), ("done", 0, ()))))
        made = self.numbers(block, entries=(("ofSum", None, (("invert", 0), parts)),))
        self.carries((0, (), (("refl", (Z,), ()), sum_of(0))), made, "ofSum", (Z, Z, Z), sum_of(0))
        for count in (1, 2):
            below = nested(count - 1, Z)
            self.carries((1, (below, below), (sum_of(count - 1),)), made, "ofSum",
                         (nested(count, Z), Z, nested(count, Z)), sum_of(count))

    def test_invert_without_parts(self):
        """A theorem without disjuncts is never carried out to the end: its premises have no derivations."""
        block = plain("never", (1, (("add", Z, Z, ("s", 0)),), ()))
        entry = ("never", None, (("invert", 0), ()))
        system = link(self.numbers(block, entries=(entry,)))
        self.refused(WrongDerivation, {"place": 0}, system.carry_out, "never", (Z,), (("addZ", (ONE,), ()),))

    def test_refl_as_the_last_rule(self):
        block = cases("turn", (2, (("=", 0, ("s", 1)),), ((("=", ("s", 1), 0),),)), 0)
        entry = ("turn", "refl", chain(("rule", "refl", (("s", 0),), ()), ("done", 0, ())))
        made = self.numbers(block, entries=(entry,))
        self.carries((0, (), (("refl", (TWO,), ()),)), made, "turn", (TWO, ONE), ("refl", (TWO,), ()))
        block = plain("same", (2, (("=", 0, 1), ("nat", 0)), ((("nat", 1),),)))
        made = self.numbers(block, entries=(("same", None, (("invert", 0), (("refl", DONE),))),))
        self.carries((0, (), (number(2),)), made, "same", (TWO, TWO), ("refl", (TWO,), ()), number(2))

    def test_equations_as_premises(self):
        block = plain("both", (2, (("=", ("s", 0), ("s", 1)),), ((("=", 0, 1),),)))
        entry = ("both", None, (("invert", 0), (("refl", chain(("rule", "refl", (0,), ()), ("done", 0, ()))),)))
        self.carries((0, (), (("refl", (ONE,), ()),)), self.numbers(block, entries=(entry,)), "both", (ONE, ONE),
                     ("refl", (TWO,), ()))

    def test_the_first_hypothesis_with_an_atom(self):
        rules = (fact("a"), fact("b"), ("c", (P,), P))
        blocks = (plain("twice", (0, (P, P), ((P,),))), plain("again", (0, (P,), ((P, P),))))
        entries = (("twice", None, chain(("rule", "b", (), ()), ("done", 0, ()))),
                   ("again", None, chain(("apply", "twice", (), (0, 0)), ("rule", "c", (), (1,)), ("done", 0, ()))))
        made = (module("m", rules=rules, blocks=blocks, entries=entries),)
        first, second = ("a", (), ()), ("c", (), (("b", (), ()),))
        self.carries((0, (), (first,)), made, "twice", (), first, second)
        self.carries((0, (), (second,)), made, "twice", (), second, first)
        self.carries((0, (), (second, second)), made, "again", (), second)

    def test_the_hypothesis_that_a_step_names_is_not_always_the_first(self):
        rules = (fact("a"), fact("b"), ("c", (P, P), Q))
        blocks = (plain("make", (0, (P, P), ((Q,),))), plain("turn", (0, (P, P), ((Q,),))))
        entries = (("make", None, chain(("rule", "c", (), (1, 0)), ("done", 0, ()))),
                   ("turn", None, chain(("apply", "make", (), (1, 0)), ("done", 0, ()))))
        made = (module("m", rules=rules, blocks=blocks, entries=entries),)
        a, b = ("a", (), ()), ("b", (), ())
        self.carries((0, (), (("c", (), (b, a)),)), made, "make", (), a, b)
        self.carries((0, (), (("c", (), (a, b)),)), made, "turn", (), a, b)

    def test_variables_that_stand_in_premises_only(self):
        rules = (("edge", (), ("edge", 0, ("s", 0))), ("path", (("edge", 0, 2), ("edge", 2, 1)), ("path", 0, 1)))
        block = cases("middle", (2, (("path", 0, 1),), ((("edge", 0, 2), ("edge", 2, 1)),)), 0)
        made = (module("m", rules=rules, blocks=(block, plain("half", block[1][0][1])),
                       entries=(("middle", "path", (("done", 0, (2,)), ())),
                                ("half", None, (("invert", 0), (("path", (("done", 0, (2,)), ())),))))),)
        edges = (("edge", (Z,), ()), ("edge", (ONE,), ()))
        for name in ("middle", "half"):
            self.carries((0, (ONE,), edges), made, name, (Z, TWO), ("path", (Z, TWO, ONE), edges))

    def test_variables_that_stand_in_no_premise_of_a_rule(self):
        rules = (("any", (), ("p", 0)), ("pair", (("p", 0),), ("q", 0, 1)))
        block = cases("first", (2, (("q", 0, 1),), ((("p", 0), ("q", 0, ("s", 1))),)), 0)
        entry = ("first", "pair", chain(("rule", "pair", (0, ("s", 1)), (1,)), ("done", 0, ())))
        made = (module("m", rules=rules, blocks=(block,), entries=(entry,)),)
        inner = ("any", (TWO,), ())
        self.carries((0, (), (inner, ("pair", (TWO, ("s", ONE)), (inner,)))), made, "first", (TWO, ONE),
                     ("pair", (TWO, ONE), (inner,)))

    def test_universal_variables_that_stand_in_disjuncts_only(self):
        rules = (("any", (), ("p", 0)),)
        made = (module("m", rules=rules, blocks=(plain("every", (2, (("p", 0),), ((("p", ("s", 1)),),))),),
                       entries=(("every", None, chain(("rule", "any", (("s", 1),), ()), ("done", 0, ()))),)),)
        self.carries((0, (), (("any", (TWO,), ()),)), made, "every", (Z, ONE), ("any", (Z,), ()))

    def test_rules_that_the_module_of_the_proof_does_not_know(self):
        arith, twice, with_cases = arithmetic()
        block = plain("again", (1, (("nat", 0),), ((("add", 0, Z, 0), ("nat", ("s", 0))),)))
        proof = chain(("apply", "addZero", (0,), (0,)), ("rule", "natS", (0,), (0,)), ("done", 0, ()))
        more = module("more", arith, blocks=(block,), entries=(("again", None, proof),))
        derivation = ("natS", (("t", Z),), (("natT", (Z,), (number(0),)),))
        term = ("s", ("t", Z))
        added = ("addS", (("t", Z), Z, ("t", Z)), (("addT", (Z, Z, Z), (("addZ", (Z,), ()),)),))
        self.carries((0, (), (added, ("natS", (term,), (derivation,)))), (more, with_cases), "again", (term,),
                     derivation)

    def test_a_block_of_two(self):
        rules = (NAT_Z, NAT_S, ("evZ", (), ("even", Z)), ("evS", (("odd", 0),), ("even", ("s", 0))),
                 ("odS", (("even", 0),), ("odd", ("s", 0))))
        block = (True, (("evenNat", (1, (("even", 0),), ((("nat", 0),),)), (0,)),
                        ("oddNat", (1, (("odd", 0),), ((("nat", 0),),)), (0,))))
        up = (("", (("rule", "natS", (0,), (2,)), FINISH)),)
        entries = (("evenNat", "evS", (("apply", "oddNat", (0,), (1,)), up)),
                   ("oddNat", "odS", (("apply", "evenNat", (0,), (1,)), up)),
                   ("evenNat", "evZ", (("rule", "natZ", (), ()), FINISH)))
        made = (module("m", rules=rules, blocks=(block,), entries=entries),)
        derivation = ("evZ", (), ())
        for count in range(1, 8):
            name, rule = (("oddNat", "odS"), ("evenNat", "evS"))[1 - count % 2]
            derivation = (rule, (nested(count - 1, Z),), (derivation,))
            self.carries((0, (), (number(count),)), made, name, (nested(count, Z),), derivation)

    def test_induction_on_the_second_premise(self):
        block = cases("second", (2, (("nat", 0), ("nat", 1)), ((("nat", ("f", 0, 1)),),)), 1)
        rules = (NAT_Z, NAT_S, ("natF", (("nat", 0), ("nat", 1)), ("nat", ("f", 0, 1))))
        entries = (("second", "natF", chain(("rule", "natF", (0, ("f", 1, 2)), (0, 1)), ("done", 0, ()))),
                   ("second", "natS", chain(("apply", "second", (0, 1), (0, 2)),
                                            ("rule", "natF", (0, ("s", 1)), (0, 1)),
                                            ("done", 0, ()))),
                   ("second", "natZ", chain(("rule", "natF", (0, Z), (0, 1)), ("done", 0, ()))))
        made = (module("m", rules=rules, blocks=(block,), entries=entries),)
        for count in range(3):
            expected = ("natF", (TWO, nested(count, Z)), (number(2), number(count)))
            self.carries((0, (), (expected,)), made, "second", (TWO, nested(count, Z)), number(2), number(count))


class ErrorsTest(SystemsTest):

    def setUp(self):
        self.system = link(arithmetic()[:1])

    def test_unknown_claims(self):
        for name in ("natZ", "addzero", "refl", "arith"):
            for terms, derivations in (((), ()), ((Z,), (number(0),)), ((0, ("s", 1)), 3 * (("x", (0,), ()),))):
                self.refused(UnknownClaim, {"name": name}, self.system.carry_out, name, terms, derivations)
                self.refused(UnknownClaim, {"name": name}, run_plan, self.system.make_plan(), name, terms, derivations)

    def test_wrong_derivations(self):
        wrong = (number(0), number(2), ("natS", (Z,), ()), ("natS", (Z,), (number(1),)), ("natS", (), (number(0),)),
                 ("natS", (Z, Z), (number(0),)), ("natS", (Z,), (number(0), number(0))), ("natS", (0,), (number(0),)),
                 ("natT", (Z,), (number(0),)), ("addZ", (ONE,), ()), ("", (), ()), ("refl", (ONE,), ()),
                 ("addZero", (ONE,), (number(1),)))
        for derivation in wrong:
            self.refused(WrongDerivation, {"place": 0}, self.system.carry_out, "addZero", (ONE,), (derivation,))
        self.assertEqual(self.system.carry_out("addZero", (ONE,), (number(1),)), (0, (), (sum_of(1),)))

    def test_rules_of_a_larger_system(self):
        derivation = ("natT", (Z,), (number(0),))
        self.refused(WrongDerivation, {"place": 0}, self.system.carry_out, "addZero", (("t", Z),), (derivation,))
        self.assertEqual(link(arithmetic()).carry_out("addZero", (("t", Z),), (derivation,))[0], 0)

    def test_the_first_wrong_one(self):
        statement = (2, (("nat", 0), ("=", 0, 1), ("nat", ("s", 1))), ((("nat", 0),),))
        system = link((module("m", rules=NATURALS, blocks=(plain("three", statement),),
                              entries=(("three", None, DONE),)),))
        right = (number(1), ("refl", (ONE,), ()), number(2))
        self.assertEqual(system.carry_out("three", (ONE, ONE), right), (0, (), right[:1]))
        for wrong in itertools.product((False, True), repeat=3):
            derivations = tuple(number(3) if bad else good for bad, good in zip(wrong, right))
            if any(wrong):
                self.refused(WrongDerivation, {"place": wrong.index(True)}, system.carry_out, "three", (ONE, ONE),
                             derivations)
        self.refused(WrongDerivation, {"place": 1}, system.carry_out, "three", (ONE, TWO), right)

    def test_wrong_before_too_large(self):
        self.refused(TooLarge, {}, self.system.carry_out, "addZero", (nested(40, Z),), (number(40),))
        self.refused(WrongDerivation, {"place": 0}, self.system.carry_out, "addZero", (nested(40, Z),), (number(41),))

    def test_nothing_changes(self):
        before = self.system.make_plan()
        self.refused(UnknownClaim, {"name": "x"}, self.system.carry_out, "x", (), ())
        self.refused(WrongDerivation, {"place": 0}, self.system.carry_out, "addZero", (Z,), (number(1),))
        for _ in range(2):
            self.assertEqual(self.system.carry_out("addZero", (TWO,), (number(2),)), (0, (), (sum_of(2),)))
        self.assertEqual(self.system.make_plan(), before)


class BoundsTest(SystemsTest):
    """Each bound of [223] exactly, and one beyond it."""

    def steps(self, applied, made, *, is_open=False):
        """A module with a theorem that applies another one, of 29 steps, so often, and makes so many rule steps."""
        long = chain(*28 * [("rule", "a", (), ())], ("done", 0, ()))
        whole = chain(*applied * [("apply", "long", (), ())], *made * [("rule", "a", (), ())], ("done", 0, ()))
        statement = (0, (Q,), ((P,),))
        rules = (fact("a"), fact("b", Q))
        block = cases("whole", statement, 0) if is_open else plain("whole", statement)
        blocks = (plain("long", (0, (), ((P,),))), block)
        entries = (("long", None, long), ("whole", "b" if is_open else None, whole))
        return (module("m", rules=rules, blocks=blocks, entries=entries),)

    def test_steps(self):
        result = (0, (), (("a", (), ()),))
        self.carries(result, self.steps(13, 9), "whole", (), ("b", (), ()))
        self.carries(None, self.steps(13, 10), "whole", (), ("b", (), ()))
        self.carries(None, self.steps(14, 0), "whole", (), ("b", (), ()))

    def test_choosing_a_case_is_a_step(self):
        result = (0, (), (("a", (), ()),))
        self.carries(result, self.steps(13, 8, is_open=True), "whole", (), ("b", (), ()))
        self.carries(None, self.steps(13, 9, is_open=True), "whole", (), ("b", (), ()))

    def within(self, first, last):
        """A module with theorems that apply one another in a row, and addZero behind them, which is carried out
        within so many others of its kind for the number `last`."""
        names = [f"row{place}" for place in range(first)]
        statement = (1, (("nat", 0),), ((("add", 0, Z, 0),),))
        blocks = tuple(plain(name, statement) for name in names)
        entries = tuple((name, None, chain(("apply", after, (0,), (0,)), ("done", 0, ())))
                        for name, after in zip(names, names[1:] + ["addZero"]))
        arith = arithmetic()[0]
        return (module("rows", arith, blocks=blocks, entries=entries),), nested(last, Z), number(last)

    def test_forty_and_one(self):
        for first in (1, 2, 5):
            made, term, derivation = self.within(first, 39 - first)
            self.carries((0, (), (sum_of(39 - first),)), made, "row0", (term,), derivation)
            made, term, derivation = self.within(first, 40 - first)
            self.carries(None, made, "row0", (term,), derivation)

    def test_theorems_behind_each_other_do_not_count(self):
        arith = arithmetic()[0]
        block = plain("often", (1, (("nat", 0),), ((("add", 0, Z, 0),),)))
        proof = chain(*6 * [("apply", "addZero", (0,), (0,))], ("done", 0, ()))
        made = (module("m", arith, blocks=(block,), entries=(("often", None, proof),)),)
        self.carries((0, (), (sum_of(12),)), made, "often", (nested(12, Z),), number(12))

    shapes = (fact("a"), ("u", (P,), P), ("d", (P, P), P))

    def made(self, count):
        """A derivation of p with so many rules, and a small height."""
        if count == 1:
            return ("a", (), ())
        if count == 2:
            return ("u", (), (self.made(1),))
        return ("d", (), (self.made((count - 1) // 2), self.made(count - 1 - (count - 1) // 2)))

    def tower(self, height):
        derivation = ("a", (), ())
        for _ in range(height - 1):
            derivation = ("u", (), (derivation,))
        return derivation

    def with_proof(self, *steps, statement=(0, (P,), ((P,),)), rules=()):
        return (module("m", rules=self.shapes + rules, blocks=(plain("t", statement),),
                       entries=(("t", None, chain(*steps)),)),)

    def test_numbers_of_rules(self):
        q = ("q", (P,), Q)
        made = self.with_proof(("rule", "q", (), (0,)), ("done", 0, ()), statement=(0, (P,), ((Q,),)), rules=(q,))
        for count in (1, 100, 1999):
            derivation = self.made(count)
            self.assertEqual(rules_in(derivation), count)
            self.carries((0, (), (("q", (), (derivation,)),)), made, "t", (), derivation)
        self.carries(None, made, "t", (), self.made(2000))

    def test_heights(self):
        made = self.with_proof(("rule", "q", (), (0,)), ("done", 0, ()), statement=(0, (P,), ((Q,),)),
                               rules=(("q", (P,), Q),))
        self.assertEqual(height_of(self.tower(60)), 60)
        self.carries((0, (), (("q", (), (self.tower(59),)),)), made, "t", (), self.tower(59))
        self.carries(None, made, "t", (), self.tower(60))

    def test_what_does_not_belong_to_the_result_counts(self):
        made = self.with_proof(("rule", "u", (), (0,)), ("done", 0, ()))
        self.carries((0, (), (self.tower(59),)), made, "t", (), self.tower(59))
        self.carries(None, made, "t", (), self.tower(60))
        self.carries((0, (), (self.made(1999),)), made, "t", (), self.made(1999))
        self.carries(None, made, "t", (), self.made(2000))

    def test_derivations_that_are_only_handed_over(self):
        made = self.with_proof(("done", 0, ()))
        for derivation in (self.tower(60), self.made(2000)):
            self.carries((0, (), (derivation,)), made, "t", (), derivation)

    def test_a_derivation_that_occurs_several_times(self):
        q = ("q", (P, P, P, P), Q)
        made = self.with_proof(("rule", "q", (), (0, 0, 0, 0)), ("done", 0, ()), statement=(0, (P,), ((Q,),)),
                               rules=(q,))
        self.carries((0, (), (("q", (), 4 * (self.made(499),)),)), made, "t", (), self.made(499))
        self.carries(None, made, "t", (), self.made(500))

    def test_doubling(self):
        """Each rule doubles the derivation: with all of them it would have millions of rules."""
        doubles = tuple((f"d{place}", 2 * ((f"p{place}",),), (f"p{place + 1}",)) for place in range(20))
        steps = [("rule", f"d{place}", (), (place, place)) for place in range(20)]
        for count, fits in ((3, True), (9, True), (10, False), (20, False)):
            made = (module("m", rules=doubles + (fact("a", ("p0",)),),
                           blocks=(plain("t", (0, (("p0",),), (((f"p{count}",),),))),),
                           entries=(("t", None, chain(*steps[:count], ("done", 0, ()))),)),)
            derivation = ("a", (), ())
            for place in range(count):
                derivation = (f"d{place}", (), (derivation, derivation))
            if fits:
                self.carries((0, (), (derivation,)), made, "t", (), ("a", (), ()))
            else:
                self.refused(TooLarge, {}, link(made).carry_out, "t", (), (("a", (), ()),))

    def taken(self, premise, result, *steps):
        """The term s(A) is taken by one of the steps: it may have the size 200 and the depth 40."""
        rules = (("any", (), ("p", 0)), ("more", (), ("q", ("s", 0))))
        blocks = (plain("t", (1, (premise,), ((("p", 0), ("q", ("s", 0))), (("q", 1),)))),
                  plain("both", (1, (), ((("q", ("s", 0)),),))))
        entries = (("t", None, chain(*steps)), ("both", None, chain(("rule", "more", (0,), ()), ("done", 0, ()))))
        made = (module("m", rules=rules, blocks=blocks, entries=entries),)
        for term in (Z, broad(199), nested(38, Z)):
            derivation = ("any", (term,), ()) if premise == ("p", 0) else ("more", (term,), ())
            self.carries(result(term, derivation), made, "t", (term,), derivation)
        for term in (broad(200), nested(39, Z)):
            derivation = ("any", (term,), ()) if premise == ("p", 0) else ("more", (term,), ())
            self.carries(None, made, "t", (term,), derivation)

    def test_terms_of_rule_steps(self):
        self.taken(("p", 0), lambda term, given: (0, (), (given, ("more", (term,), ()))),
                   ("rule", "any", (("s", 0),), ()), ("rule", "more", (0,), ()), ("done", 0, ()))

    def test_terms_of_apply_steps(self):
        self.taken(("p", 0), lambda term, given: (0, (), (given, ("more", (term,), ()))),
                   ("apply", "both", (("s", 0),), ()), ("rule", "more", (0,), ()), ("done", 0, ()))

    def test_terms_of_done_steps(self):
        self.taken(("q", ("s", 0)), lambda term, given: (1, (("s", term),), (given,)), ("done", 1, (("s", 0),)))

    def test_variables_are_not_too_large(self):
        """Only what is made of the given terms counts, not what they are."""
        made = self.with_proof(("done", 0, ()), statement=(2, (("p", 0),), ((("p", 0),), (("p", 1),))),
                               rules=(("any", (), ("p", 0)),))
        derivation = ("any", (broad(200),), ())
        self.carries((0, (), (derivation,)), made, "t", (broad(200), nested(39, Z)), derivation)


if __name__ == "__main__":
    unittest.main()
