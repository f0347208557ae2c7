"""Modules [180] to [184], and the scopes of summaries."""

import itertools
import unittest

from openrules.arguments import argument_depth, step_count
from openrules.errors import DuplicateModule, DuplicateName, EntryRefused
from openrules.errors import InvalidClaim, InvalidRule, TooLarge, WrongImports
from openrules.goals import case_goal
from openrules.kernel import check_argument
from openrules.modules import Module, scope_of, summaries_of
from samples import ADD_S, ADD_Z, EVEN, FINISH, FIRST, LATER, NAT_S, NAT_Z, NATURALS, ODD, RIGHT, Z, broad, module

P, Q = ("p",), ("q",)
ARITH_PARTS = ("arith", (), NATURALS, ((True, (RIGHT,)),), (("addZero", "natZ", FIRST), ("addZero", "natS", LATER)))
DONE = (("done", 0, ()), ())
ALWAYS = ("always", (1, (("p", 0),), ((("p", 0),),)), ())


def fact(name):
    """A rule without premises and variables."""
    return (name, (), P)


def plain(*names):
    """A block of theorems with these names, which are proved by one step."""
    return (False, tuple((name,) + ALWAYS[1:] for name in names))


def summary(name, rules=(), blocks=()):
    return (name, (), rules, blocks, ())


class Raising(unittest.TestCase):

    def refused(self, error, attributes, function, *arguments):
        with self.assertRaises(error) as caught:
            function(*arguments)
        self.assertIs(type(caught.exception), error)
        self.assertEqual(vars(caught.exception), attributes)

    def made(self, error, attributes, parts, *imports):
        self.refused(error, attributes, Module, parts, imports)


class ExamplesTest(Raising):

    def test_the_module_arith(self):
        arith = Module(ARITH_PARTS)
        self.assertEqual(arith.parts, ARITH_PARTS)
        self.assertEqual(arith.summary[:4], ARITH_PARTS[:4])
        self.assertEqual(arith.summary[4], (("addZero", "natZ", (), ()), ("addZero", "natS", (), ("addZero",))))
        self.assertEqual(arith.summaries, (arith.summary,))

    def test_the_modules_of_3(self):
        arith = Module(ARITH_PARTS)
        nat_t = ("natT", (("nat", 0),), ("nat", ("t", 0)))
        add_t = ("addT", (("add", 0, 1, 2),), ("add", ("t", 0), 1, ("t", 2)))
        twice = Module(("twice", ("arith",), (nat_t, add_t), (), ()), (arith,))
        extra = (("apply", "addZero", (0,), (1,)), (("", (("rule", "addT", (0, Z, 0), (2,)), FINISH)),))
        cases = Module(("cases", ("twice",), (), (), (("addZero", "natT", extra),)), (twice,))
        self.assertEqual(cases.summary, ("cases", ("twice",), (), (), (("addZero", "natT", (), ("addZero",)),)))
        self.assertEqual(cases.summaries, (arith.summary, twice.summary, cases.summary))
        self.assertEqual(twice.summaries, cases.summaries[:2])
        expected = ((ADD_S, add_t, ADD_Z, NAT_S, nat_t, NAT_Z), ((True, (RIGHT,)),))
        self.assertEqual(scope_of(cases.summaries), expected)

    def test_refused(self):
        arith = Module(ARITH_PARTS)
        self.made(EntryRefused, {"place": 0, "reason": "argument"},
                  ("more", ("arith",), (), (), (("addZero", "natS", FIRST),)), arith)
        self.made(DuplicateName, {"name": "natS"},
                  ("more", ("arith",), (("natS", (), ("nat", ("one",))),), (), ()), arith)

    def test_entries_for_imported_theorems_and_rules(self):
        rules = module("rules", rules=NATURALS)
        claims = module("claims", blocks=((True, (RIGHT,)),))
        both = module("both", rules, claims, entries=ARITH_PARTS[4])
        self.assertEqual(both.summary[4], Module(ARITH_PARTS).summary[4])
        self.assertEqual(module("none", claims, entries=()).summary, ("none", ("claims",), (), (), ()))


class OrderTest(Raising):

    def test_imports_first_and_each_once(self):
        a = module("a")
        b, c = module("b", a), module("c", a)
        d = module("d", c, b)
        e = module("e", a, d, b)
        self.assertEqual([told[0] for told in d.summaries], ["a", "c", "b", "d"])
        self.assertEqual([told[0] for told in e.summaries], ["a", "c", "b", "d", "e"])
        self.assertEqual(e.summaries[-1], e.summary)
        self.assertEqual(e.summary[1], ("a", "d", "b"))

    def test_summaries_of(self):
        a = module("a")
        b, c = module("b", a), module("c", a)
        d = module("d", c)
        self.assertEqual(summaries_of(()), ())
        self.assertEqual(summaries_of((a,)), (a.summary,))
        self.assertEqual(summaries_of((a, a)), (a.summary,))
        self.assertEqual(summaries_of((b, b, b)), (a.summary, b.summary))
        self.assertEqual(summaries_of((d, b)), (a.summary, c.summary, d.summary, b.summary))
        self.assertEqual(summaries_of((b, d, c)), (a.summary, b.summary, c.summary, d.summary))
        self.assertEqual(summaries_of((c, a, d)), (a.summary, c.summary, d.summary))

    def test_modules_that_import_the_imports_of_others(self):
        a, b = module("a"), module("b")
        c, d = module("c", a, b), module("d", b, a)
        self.assertEqual([told[0] for told in summaries_of((c, d))], ["a", "b", "c", "d"])
        self.assertEqual([told[0] for told in summaries_of((d, c))], ["b", "a", "d", "c"])

    def test_equal_modules_that_are_reached_by_two_ways(self):
        first, second = Module(ARITH_PARTS), Module(ARITH_PARTS)
        b, c = module("b", first), module("c", second)
        self.assertEqual(summaries_of((b, c)), (first.summary, b.summary, c.summary))
        d = module("d", b, c)
        self.assertEqual([told[0] for told in d.summaries], ["arith", "b", "c", "d"])

    def test_different_modules_with_equal_summaries(self):
        """Two modules are the same only if their parts are, proofs included."""
        longer = (("rule", "refl", (Z,), ()), (("", (("rule", "addZ", (Z,), ()), FINISH)),))
        other = ARITH_PARTS[:4] + ((("addZero", "natZ", longer), ARITH_PARTS[4][1]),)
        first, second = Module(ARITH_PARTS), Module(other)
        self.assertEqual(first.summary, second.summary)
        self.assertEqual(summaries_of((first, second)), (first.summary, second.summary))
        self.made(DuplicateModule, {"name": "arith"}, ("c", ("b", "d"), (), (), ()), module("b", first),
                  module("d", second))

    def test_many_modules(self):
        ones = tuple(module(f"m{number}") for number in range(12))
        self.assertEqual([told[0] for told in summaries_of(ones)], [f"m{number}" for number in range(12)])


class ImportsTest(Raising):

    def test_names_of_the_imports(self):
        a, b = module("a"), module("b")
        for names in ((), ("a",), ("b", "a"), ("a", "b", "c"), ("a", "c"), ("a", "b", "b")):
            self.made(WrongImports, {}, ("c", names, (), (), ()), a, b)
        self.made(WrongImports, {}, ("c", ("a",), (), (), ()))
        self.refused(WrongImports, {}, Module, ("c", ("a",), (), (), ()))
        Module(("c", ("a", "b"), (), (), ()), (a, b))
        Module(("c", (), (), (), ()), ())

    def test_a_name_that_occurs_twice(self):
        a, b = module("a"), module("b")
        self.made(WrongImports, {}, ("c", ("a", "a"), (), (), ()), a, a)
        self.made(WrongImports, {}, ("c", ("a", "b", "a"), (), (), ()), a, b, module("a", b))

    def test_first_of_all(self):
        self.made(WrongImports, {}, ("c", ("a",), (("R", (), P),), ((True, (ALWAYS,)),), (("x", None, DONE),)))


class DeclarationsTest(Raising):

    def test_invalid_rules(self):
        bad = ("bad", (), ("p", 1))
        self.made(InvalidRule, {"name": "bad"}, ("m", (), (NAT_Z, bad), (), ()))
        self.made(InvalidRule, {"name": "bad"}, ("m", (), (bad, ("worse", (), ("=", 0, 0))), (), ()))
        self.made(InvalidRule, {"name": "worse"}, ("m", (), (("worse", 5 * (P,), P), bad), (), ()))
        self.made(InvalidRule, {"name": "big"}, ("m", (), (("big", (), ("p", broad(60))),), (), ()))

    def test_invalid_rules_before_invalid_blocks(self):
        self.made(InvalidRule, {"name": "bad"}, ("m", (), (("bad", (), ("p", 1)),), ((True, (ALWAYS,)),), ()))

    def test_invalid_blocks(self):
        worse = (False, (("worse", (1, (P,), ()), ()),))
        self.made(InvalidClaim, {"name": "always"}, ("m", (), (), ((True, (ALWAYS,)),), ()))
        self.made(InvalidClaim, {"name": "worse"}, ("m", (), (), ((False, (ALWAYS,)), worse, (True, (ALWAYS,))), ()))
        self.made(InvalidClaim, {"name": "always"}, ("m", (), (), ((False, (ALWAYS,) + worse[1]),), ()))
        self.made(InvalidClaim, {"name": "a"}, ("m", (), (), (plain("a", "b", "c", "d", "e"),), ()))

    def test_invalid_declarations_before_duplicates(self):
        a = module("a", rules=(NAT_Z,))
        for error, rules, blocks in ((InvalidRule, (NAT_Z, ("bad", (), ("p", 1))), ()),
                                     (InvalidClaim, (NAT_Z,), ((True, (("bad",) + ALWAYS[1:],)),))):
            self.made(error, {"name": "bad"}, ("a", ("a",), rules, blocks, (("x", None, DONE),)), a)

    def test_duplicate_modules(self):
        a, other = module("a"), module("a", rules=(NAT_Z,))
        b, c = module("b", a), module("c", other)
        self.made(DuplicateModule, {"name": "a"}, ("d", ("b", "c"), (), (), ()), b, c)
        self.made(DuplicateModule, {"name": "a"}, ("d", ("b", "a"), (), (), ()), b, other)
        self.made(DuplicateModule, {"name": "b"}, ("b", ("b",), (), (), ()), b)
        self.made(DuplicateModule, {"name": "a"}, ("a", ("b",), (), (), ()), b)
        Module(("d", ("b", "a"), (), (), ()), (b, a))

    def test_the_first_duplicate_module(self):
        """The name of the first module, in their order, whose name an earlier one has."""
        a, b = module("a"), module("b")
        again = module("a", rules=(fact("x"),)), module("b", rules=(fact("y"),))
        x, y = module("x", a, b), module("y", again[1], again[0])
        self.made(DuplicateModule, {"name": "b"}, ("d", ("x", "y"), (), (), ()), x, y)
        x, y = module("x", b, a), module("y", again[0], again[1])
        self.made(DuplicateModule, {"name": "a"}, ("d", ("x", "y"), (), (), ()), x, y)

    def test_duplicate_modules_before_duplicate_names(self):
        a, other = module("a", rules=(NAT_Z,)), module("a", rules=(NAT_Z, NAT_S))
        self.made(DuplicateModule, {"name": "a"}, ("d", ("b", "a"), (NAT_Z,), (), ()), module("b", a), other)


class NamesTest(Raising):

    def names(self, expected, *parts):
        """The modules, given by their rules and blocks, each importing the one before it; the last one is refused."""
        made = ()
        for place, (rules, blocks) in enumerate(parts[:-1]):
            made = (module(f"m{place}", *made, rules=rules, blocks=blocks),)
        imports = tuple(told.parts[0] for told in made)
        self.made(DuplicateName, {"name": expected}, ("last", imports, *parts[-1], ()), *made)

    def test_refl(self):
        self.names("refl", ((fact("refl"),), ()))
        self.names("refl", ((), (plain("refl"),)))
        self.names("refl", ((fact("a"), fact("refl"), fact("a")), ()))
        self.names("a", ((fact("a"), fact("a"), fact("refl")), ()))

    def test_within_one_module(self):
        self.names("a", ((fact("b"), fact("a"), fact("a"), fact("b")), ()))
        self.names("a", ((fact("a"),), (plain("b", "a"),)))
        self.names("a", ((), (plain("b", "a", "a"),)))
        self.names("a", ((), (plain("b", "a"), plain("c", "a", "b"))))

    def test_with_imported_modules(self):
        self.names("a", ((fact("a"), fact("b")), ()), ((fact("c"), fact("a"), fact("b")), ()))
        self.names("b", ((fact("a"),), (plain("b"),)), ((fact("b"),), (plain("a"),)))
        self.names("b", ((fact("a"),), (plain("b"),)), ((), (plain("c", "b"), plain("a"))))
        self.names("c", ((fact("c"),), ()), ((), (plain("a"),)), ((fact("d"),), (plain("b", "c"),)))

    def test_rules_before_theorems_and_modules_in_order(self):
        self.names("b", ((fact("a"), fact("b")), ()), ((fact("b"),), (plain("a"),)))
        one, two = module("one", rules=(fact("a"),)), module("two", rules=(fact("b"), fact("a")))
        self.made(DuplicateName, {"name": "a"}, ("m", ("one", "two"), (fact("b"),), (), ()), one, two)

    def test_duplicate_names_before_too_large(self):
        rules = tuple(fact(f"r{number}") for number in range(24))
        self.names("r0", (rules, ()), ((fact("x"), fact("r0")), ()))


class TooLargeTest(Raising):

    def test_modules(self):
        made = [module("m0")]
        for number in range(1, 6):
            made.append(module(f"m{number}", made[-1]))
        self.assertEqual(len(made[-1].summaries), 6)
        self.made(TooLarge, {}, ("m6", ("m5",), (), (), ()), made[-1])
        self.made(TooLarge, {}, ("m6", ("m5",), (), (), (("x", None, DONE),)), made[-1])
        Module(("m6", ("m4",), (), (), ()), (made[4],))

    def test_rules(self):
        rules = tuple(fact(f"r{number}") for number in range(25))
        module("m", rules=rules[:24])
        self.made(TooLarge, {}, ("m", (), rules, (), ()))
        half = module("half", rules=rules[:12])
        module("m", half, rules=rules[12:24])
        self.made(TooLarge, {}, ("m", ("half",), rules[12:], (), ()), half)

    def test_theorems(self):
        names = [f"c{number}" for number in range(13)]
        blocks = tuple(plain(*names[start:start + 4]) for start in range(0, 12, 4))
        module("m", blocks=blocks)
        self.made(TooLarge, {}, ("m", (), (), blocks + (plain(names[12]),), ()))
        self.made(TooLarge, {}, ("m", ("a",), (), (plain(names[12]),), ()), module("a", blocks=blocks))
        module("m", module("a", blocks=blocks[1:]), blocks=blocks[:1])

    def test_entries(self):
        entry = ("always", None, DONE)
        made = module("m", blocks=((False, (ALWAYS,)),), entries=24 * (entry,))
        self.assertEqual(made.summary[4], 24 * (("always", None, (), ()),))
        self.made(TooLarge, {}, ("m", (), (), ((False, (ALWAYS,)),), 25 * (entry,)))
        self.made(TooLarge, {}, ("m", (), (), ((False, (ALWAYS,)),), 25 * (("other", None, DONE),)))
        more = module("more", made, entries=24 * (entry,))
        self.assertEqual(len(more.summary[4]), 24)


class EntriesTest(Raising):

    blocks = ((True, (RIGHT,)), (False, (ALWAYS,)))

    def entry(self, reason, *entry, rules=NATURALS, blocks=None):
        """Whether the entry is refused for this reason, alone and behind others; it is not if the reason is None."""
        blocks = blocks or self.blocks
        good = ("always", None, DONE)
        for before in ((), 3 * (good,)):
            parts = ("m", (), rules, blocks, before + (entry, good))
            if reason is None:
                self.assertEqual(len(Module(parts).summary[4]), len(parts[4]))
            else:
                self.made(EntryRefused, {"place": len(before), "reason": reason}, parts)

    def test_claim(self):
        self.entry("claim", "natZ", None, DONE)
        self.entry("claim", "addzero", "natZ", FIRST)
        self.entry("claim", "refl", "none", DONE)
        self.entry(None, "addZero", "natZ", FIRST)

    def test_open(self):
        self.entry("open", "addZero", None, FIRST)
        self.entry("open", "always", "natZ", DONE)
        self.entry("open", "always", "none", DONE)
        self.entry("open", "always", "refl", DONE)
        self.entry(None, "always", None, DONE)

    def test_rule(self):
        self.entry("rule", "addZero", "none", FIRST)
        self.entry("rule", "addZero", "addZero", FIRST)
        self.entry("rule", "addZero", "natZ", FIRST, rules=(NAT_S, ADD_Z))

    def test_case(self):
        self.entry("case", "addZero", "addZ", FIRST)
        self.entry("case", "addZero", "refl", FIRST)
        self.entry("case", "addZero", "natP", FIRST, rules=NATURALS + (("natP", (), ("nat", 0, 0)),))

    def test_refl(self):
        claim = ("equal", (2, (("=", 0, ("s", 1)),), ((("=", ("s", 1), 0),),)), (0,))
        blocks = ((True, (claim,)), self.blocks[1])
        self.entry(None, "equal", "refl", (("rule", "refl", (("s", 0),), ()), FINISH), blocks=blocks)
        self.entry("argument", "equal", "refl", (("rule", "refl", (0,), ()), ()), blocks=blocks)
        self.entry("case", "equal", "natZ", DONE, blocks=blocks)

    def large(self, count):
        """A block of an open theorem, and a rule: the goal of its case has an atom with two terms of this size."""
        claim = ("large", (1, (("p", 0), ("q", 0, 0)), ((("p", 0),),)), (0,))
        return (True, (claim,)), ("big", (), ("p", broad(count)))

    def test_limits_of_the_goal(self):
        for count, reason in ((28, None), (29, None), (30, "limits"), (59, "limits")):
            block, rule = self.large(count)
            self.entry(reason, "large", "big", DONE, rules=(rule,), blocks=(block, self.blocks[1]))
            self.entry(reason or "argument", "large", "big", (("done", 5, ()), ()), rules=(rule,),
                       blocks=(block, self.blocks[1]))

    def long(self, count):
        """A proof of always with this number of steps, one below the other."""
        argument = DONE
        for _ in range(count - 1):
            argument = (("rule", "natZ", (), ()), (("", argument),))
        return argument

    def test_depth_of_the_proof(self):
        self.entry(None, "always", None, self.long(30))
        self.entry("limits", "always", None, self.long(31))
        self.entry("limits", "always", None, self.long(60))

    def wide(self, count):
        """A proof with this number of steps and a small depth; it applies a theorem with two disjuncts."""
        if count == 1:
            return DONE
        if count == 2:
            return (("rule", "natZ", (), ()), (("", DONE),))
        half = count // 2
        return (("apply", "two", (), ()), (("", self.wide(half)), ("", self.wide(count - 1 - half))))

    def test_number_of_steps_of_the_proof(self):
        blocks = ((False, (("two", (0, (), ((P,), (P,))), ()), ALWAYS)), (False, (("goal", (0, (P,), ((P,),)), ()),)))
        for count in (99, 100, 101, 300):
            argument = self.wide(count)
            self.assertEqual((step_count(argument), argument_depth(argument) < 12), (count, True))
            self.entry(None if count <= 100 else "limits", "goal", None, argument, rules=(NAT_Z,), blocks=blocks)

    def test_limits_before_argument(self):
        self.entry("limits", "always", None, (("done", 9, ()), 100 * (("", DONE),)))
        self.entry("argument", "always", None, (("done", 9, ()), 99 * (("", DONE),)))

    def test_argument(self):
        self.entry("argument", "always", None, (("done", 1, ()), ()))
        self.entry("argument", "addZero", "natZ", LATER)
        self.entry("argument", "addZero", "natS", FIRST)
        self.entry(None, "addZero", "natS", LATER)

    def test_the_first_reason(self):
        block, rule = self.large(59)
        rules = NATURALS + (rule,)
        blocks = self.blocks + (block,)
        wrong = self.long(31)[:1] + ((("zz", self.long(31)),),)
        self.entry("claim", "none", "none", wrong, rules=rules, blocks=blocks)
        self.entry("open", "always", "none", wrong, rules=rules, blocks=blocks)
        self.entry("open", "addZero", None, wrong, rules=rules, blocks=blocks)
        self.entry("rule", "large", "none", wrong, rules=rules, blocks=blocks)
        self.entry("case", "large", "natZ", wrong, rules=rules, blocks=blocks)
        self.entry("limits", "large", "big", wrong, rules=rules, blocks=blocks)

    def test_the_first_entry(self):
        good, bad, worse = ("always", None, DONE), ("always", None, (("done", 1, ()), ())), ("none", None, DONE)
        for entries, place, reason in (((good, bad, worse), 1, "argument"), ((good, good, worse, bad), 2, "claim"),
                                       (23 * (good,) + (bad,), 23, "argument")):
            self.made(EntryRefused, {"place": place, "reason": reason}, ("m", (), (), ((False, (ALWAYS,)),), entries))

    def test_too_large_before_entries(self):
        rules = tuple(fact(f"r{number}") for number in range(25))
        self.made(TooLarge, {}, ("m", (), rules, (), (("none", None, DONE),)))

    def test_the_scope_is_that_of_the_module(self):
        """Rules of modules that are not imported do not count, neither do they spoil an inversion."""
        claim = ("noT", (1, (("nat", ("t", 0)),), ()), ())
        proof = (("invert", 0), ())
        base = module("base", rules=NATURALS, blocks=((False, (claim,)),), entries=(("noT", None, proof),))
        more = module("more", base, rules=(("natT", (), ("nat", ("t", Z))),))
        self.assertEqual(base.summary[4], (("noT", None, (("nat", ("t", 0)),), ()),))
        self.made(EntryRefused, {"place": 0, "reason": "argument"},
                  ("last", ("more",), (), (), (("noT", None, proof),)), more)
        self.assertEqual(module("other", base, entries=(("noT", None, proof),)).summary[4], base.summary[4])

    def test_repeated_entries(self):
        entries = (("addZero", "natZ", FIRST), ("addZero", "natZ", FIRST))
        made = module("m", rules=NATURALS, blocks=self.blocks[:1], entries=entries)
        self.assertEqual(made.summary[4], 2 * (("addZero", "natZ", (), ()),))


class SummaryTest(Raising):

    def test_nothing(self):
        made = module("m")
        self.assertEqual((made.parts, made.summary, made.summaries),
                         (2 * (("m", (), (), (), ()),) + ((("m", (), (), (), ()),),)))

    def test_inverted_atoms_and_applied_theorems(self):
        whole = ("whole", RIGHT[1], (0,))
        other = ("other", (1, (("nat", 0),), ((("add", ("s", 0), Z, ("s", 0)),),)), (0,))
        by_z = (("apply", "other", (Z,), (1,)), (("", (("apply", "whole", (Z,), (1,)), FINISH)),))
        by_s = (("apply", "other", (("s", 0),), (1,)), FINISH)
        case = (("invert", 1), (("natS", by_s), ("natZ", by_z)))
        made = module("m", rules=NATURALS, blocks=((True, (whole,)), (False, (other,))),
                      entries=(("whole", "natS", case),))
        self.assertEqual(made.summary[4], (("whole", "natS", (("nat", 0),), ("other", "whole")),))

    def test_a_block_of_two(self):
        rules = (NAT_Z, NAT_S, ("evZ", (), ("even", Z)), ("evS", (("odd", 0),), ("even", ("s", 0))),
                 ("odS", (("even", 0),), ("odd", ("s", 0))))
        entries = (
            ("evenNat", "evS", (("apply", "oddNat", (0,), (1,)), (("", (("rule", "natS", (0,), (2,)), FINISH)),))),
            ("oddNat", "odS", (("apply", "evenNat", (0,), (1,)), (("", (("rule", "natS", (0,), (2,)), FINISH)),))),
            ("evenNat", "evZ", (("rule", "natZ", (), ()), FINISH)),
        )
        made = module("m", rules=rules, blocks=((True, (EVEN, ODD)),), entries=entries)
        expected = (("evenNat", "evS", (), ("oddNat",)), ("oddNat", "odS", (), ("evenNat",)),
                    ("evenNat", "evZ", (), ()))
        self.assertEqual(made.summary, ("m", (), rules, ((True, (EVEN, ODD)),), expected))

    def test_changes_nothing(self):
        a = module("a", rules=NATURALS)
        before = (a.parts, a.summary, a.summaries)
        self.made(DuplicateName, {"name": "natZ"}, ("b", ("a",), (NAT_Z,), (), ()), a)
        module("b", a, blocks=((True, (RIGHT,)),), entries=ARITH_PARTS[4])
        self.assertEqual((a.parts, a.summary, a.summaries), before)


class ScopeOfTest(Raising):

    def test_nothing(self):
        self.assertEqual(scope_of(()), ((), ()))
        self.assertEqual(scope_of((summary("a"),)), ((), ()))

    def test_sorted_by_name(self):
        rules = tuple(fact(name) for name in ("b", "aB", "a", "ab", "a1", "c"))
        blocks = (plain("z", "d"), plain("y"), plain("x", "w", "e"), plain("yY"))
        expected = (tuple(fact(name) for name in ("a", "a1", "aB", "ab", "b", "c")),
                    (blocks[2], blocks[1], blocks[3], blocks[0]))
        self.assertEqual(scope_of((summary("m", rules, blocks),)), expected)
        for order in itertools.permutations(range(3)):
            told = [summary(f"m{place}", rules[2 * place:2 * place + 2], blocks[place:place + 1 + place // 2])
                    for place in range(3)]
            self.assertEqual(scope_of(tuple(told[place] for place in order)), expected)

    def test_the_name_of_a_block_is_that_of_its_first_theorem(self):
        blocks = ((True, (RIGHT,)), (True, (EVEN, ODD)))
        self.assertEqual(scope_of((summary("m", (), blocks[::-1]),)), ((), blocks))
        self.assertEqual(scope_of((summary("m", (), (plain("m"), (True, (ODD, EVEN)))),))[1][1], (True, (ODD, EVEN)))

    def test_the_scope_accepts_what_the_modules_do(self):
        arith = Module(ARITH_PARTS)
        scope = scope_of(arith.summaries)
        self.assertIsNone(check_argument(scope, "addZero", case_goal(RIGHT, NAT_S), LATER))

    def test_duplicate_modules(self):
        told = (summary("a"), summary("b"), summary("c"), summary("b", (NAT_Z,)), summary("a"))
        self.refused(DuplicateModule, {"name": "b"}, scope_of, told)
        self.refused(DuplicateModule, {"name": "a"}, scope_of, (summary("a"), summary("a")))

    def test_duplicate_modules_before_duplicate_names(self):
        self.refused(DuplicateModule, {"name": "a"}, scope_of,
                     (summary("a", (NAT_Z, NAT_Z)), summary("b"), summary("a")))

    def test_duplicate_names(self):
        told = (summary("a", (fact("x"),), (plain("y"),)), summary("b", (fact("z"),), (plain("u", "y"), plain("x"))))
        self.refused(DuplicateName, {"name": "y"}, scope_of, told)
        self.refused(DuplicateName, {"name": "x"}, scope_of, told[::-1])
        self.refused(DuplicateName, {"name": "refl"}, scope_of, (summary("a", (fact("refl"),)),))

    def test_duplicate_names_before_too_large(self):
        told = tuple(summary(f"m{number}") for number in range(7))
        self.refused(DuplicateName, {"name": "x"}, scope_of, told + (summary("a", (fact("x"), fact("x"))),))
        self.refused(TooLarge, {}, scope_of, told)

    def test_too_large(self):
        self.assertEqual(scope_of(tuple(summary(f"m{number}") for number in range(6))), ((), ()))
        rules = tuple(fact(f"r{number}") for number in range(25))
        self.assertEqual(len(scope_of((summary("a", rules[:20]), summary("b", rules[20:24])))[0]), 24)
        self.refused(TooLarge, {}, scope_of, (summary("a", rules[:20]), summary("b", rules[20:])))
        blocks = tuple(plain(*[f"c{place}x{number}" for number in range(4)]) for place in range(3))
        self.assertEqual(len(scope_of((summary("a", (), blocks),))[1]), 3)
        self.refused(TooLarge, {}, scope_of, (summary("a", (), blocks + (plain("more"),)),))

    def test_not_because_of_entries(self):
        entries = 24 * (("always", None, (), ()),)
        told = tuple((f"m{number}", (), (), (), entries) for number in range(6))
        self.assertEqual(scope_of(told), ((), ()))


if __name__ == "__main__":
    unittest.main()
