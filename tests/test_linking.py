"""Linking: the problems of summaries [200] to [204], and the order of their blocks."""

import itertools
import unittest

from openrules.errors import TooLarge
from openrules.linking import block_order, problems_of
from samples import NAT_S, NAT_Z, NATURALS, RIGHT

P, Q = ("p",), ("q",)
L_RULES = (("lNil", (), ("list", ("nil",))), ("lCons", (("list", 1),), ("list", ("cons", 0, 1))),
           ("fCons", (), ("full", ("cons", 0, 1))))
SPLIT = ("split", (1, (("list", 0), ("full", 0)), ((("=", 0, ("cons", 1, 2)), ("list", 2)),)), ())
TAIL = ("tail", (1, (("list", 0),), ((("=", 0, ("nil",)),), (("full", 0),))), (0,))
L_ENTRIES = (("split", None, (("full", 0), ("list", ("cons", 0, 1))), ()), ("tail", "lNil", (), ()),
             ("tail", "lCons", (), ()))
LISTS = ("lists", (), L_RULES, ((False, (SPLIT,)), (True, (TAIL,))), L_ENTRIES)
R_RULES = (("lJoin", (("list", 0), ("list", 1)), ("list", ("join", 0, 1))),
           ("fJoin", (("full", 0),), ("full", ("join", 0, 1))))
ROPES = ("ropes", ("lists",), R_RULES, (), ())


def summary(name, imports=(), rules=(), blocks=(), entries=()):
    return (name, imports, rules, blocks, entries)


def fact(name, atom=P):
    """A rule without premises."""
    return (name, (), atom)


def plain(*names):
    """A block of theorems with these names, which are not open."""
    return (False, tuple((name, (0, (P,), ((P,),)), ()) for name in names))


def cases(name, premise):
    """A block of one open theorem about a statement with this premise."""
    return (True, ((name, (0, (premise,), ((premise,),)), (0,)),))


def proofs(*names, uses=()):
    """Entries for theorems that are not open, which all apply the same theorems."""
    return tuple((name, None, (), uses) for name in names)


class LinkingTest(unittest.TestCase):

    def problems(self, expected, *summaries):
        self.assertEqual(problems_of(summaries), expected)


class ExamplesTest(LinkingTest):

    def test_lists_and_ropes(self):
        self.problems((("missing case", "tail", "lJoin"), ("new case", "split", None, ("full", 0), "fJoin")),
                      LISTS, ROPES)
        self.assertEqual(block_order((LISTS, ROPES)), ("split", "tail"))

    def test_lists_alone(self):
        self.problems((), LISTS)
        self.assertEqual(block_order((LISTS,)), ("split", "tail"))

    def test_nothing(self):
        self.problems(())
        self.assertEqual(block_order(()), ())
        self.problems((), summary("a"), summary("b", ("a",)))
        self.assertEqual(block_order((summary("a"), summary("b", ("a",)))), ())

    def test_the_cases_are_added(self):
        more = summary("more", ("ropes",), (), (), (("tail", "lJoin", (), ()),))
        self.problems((("new case", "split", None, ("full", 0), "fJoin"),), LISTS, ROPES, more)
        self.problems((("new case", "split", None, ("full", 0), "fJoin"),), LISTS, ROPES[:4] + (more[4],))


class DuplicateTest(LinkingTest):

    def test_modules(self):
        a, b, c = summary("a"), summary("b"), summary("c")
        self.problems((("duplicate module", "a"),), a, a)
        self.problems((("duplicate module", "a"),), a, b, a, c, a)
        self.problems((("duplicate module", "b"), ("duplicate module", "a")), a, b, c, b, a)

    def test_names(self):
        self.problems((("duplicate name", "x"),), summary("a", (), (fact("x"), fact("x"), fact("x"))))
        self.problems((("duplicate name", "x"),), summary("a", (), (fact("x"),)), summary("b", (), (fact("x", Q),)))
        self.problems((("duplicate name", "y"), ("duplicate name", "x")),
                      summary("a", (), (fact("x"), fact("y"))), summary("b", (), (fact("z"), fact("y"), fact("x"))))

    def test_rules_and_theorems_share_their_names(self):
        self.problems((("duplicate name", "x"),), summary("a", (), (fact("x"),), (plain("y", "x"),)))
        self.problems((("duplicate name", "y"), ("duplicate name", "x")),
                      summary("a", (), (fact("x"),), (plain("y", "u"),)),
                      summary("b", (), (fact("y"), fact("v")), (plain("w"), plain("x"))))

    def test_rules_come_before_the_theorems_of_a_module(self):
        self.problems((("duplicate name", "x"), ("duplicate name", "y")),
                      summary("a", (), (fact("y"), fact("x"), fact("x")), (plain("y"),)))

    def test_refl(self):
        self.problems((("duplicate name", "refl"),), summary("a", (), (fact("refl"),)))
        self.problems((("duplicate name", "refl"), ("duplicate name", "x")),
                      summary("a", (), (fact("x"), fact("refl"), fact("x")), (plain("refl"),)))

    def test_names_of_modules_are_names_of_their_own(self):
        self.problems((), summary("x", (), (fact("a"),)), summary("y", (), (fact("x"), fact("y"))))

    def test_modules_before_names(self):
        self.problems((("duplicate module", "a"), ("duplicate name", "x")),
                      summary("a", (), (fact("x"), fact("x"))), summary("a"))
        self.problems((("duplicate module", "b"), ("duplicate module", "a"), ("duplicate name", "z"),
                       ("duplicate name", "x")),
                      summary("a", (), (fact("x"),)), summary("b", (), (fact("z"),)), summary("b", (), (fact("z"),)),
                      summary("a", (), (fact("x"),)))

    def test_no_other_problems_beside_these(self):
        self.problems((("duplicate module", "ropes"),), LISTS, ROPES, ("ropes", (), (), (plain("more"),), ()))
        self.problems((("duplicate name", "lNil"),), LISTS, ROPES, summary("a", (), (fact("lNil"),)))
        circle = proofs("x", uses=("y",)) + proofs("y", uses=("x",))
        self.problems((("duplicate name", "x"),),
                      summary("a", (), (fact("x"),), (plain("x"), plain("y"), plain("z")), circle + circle))


class MissingTest(LinkingTest):

    def test_arguments_by_name(self):
        self.problems((("missing argument", "a"), ("missing argument", "bA"), ("missing argument", "ba")),
                      summary("m", (), (), (plain("ba", "b", "bA"), plain("a")), proofs("b")))

    def test_entries_of_other_modules(self):
        self.problems((), summary("m", (), (), (plain("a", "b"),), proofs("b")),
                      summary("n", ("m",), (), (), proofs("a")))

    def test_cases_by_name_of_the_rule(self):
        rules = (NAT_S, ("nat2", (), ("nat", ("two",))), ("noNat", (), ("list", ("nil",))), NAT_Z)
        self.problems((("missing case", "addZero", "nat2"), ("missing case", "addZero", "natS"),
                       ("missing case", "addZero", "natZ")), summary("m", (), rules, ((True, (RIGHT,)),)))
        self.problems((("missing case", "addZero", "natS"),),
                      summary("m", (), rules, ((True, (RIGHT,)),),
                              (("addZero", "natZ", (), ()), ("addZero", "nat2", (), ()))))

    def test_only_rules_that_apply(self):
        claim = ("all", (1, (("p", 0, 0), ("q", 0)), ((("q", 0),),)), (0,))
        rules = (("a", (), ("p", 0, ("s", 0))), ("b", (), ("p", 0, ("s", 1))), ("c", (), ("q", 0)), ("d", (), ("p", 0)),
                 ("e", (), ("p", ("y",), ("z",))))
        self.problems((("missing case", "all", "b"),), summary("m", (), rules, ((True, (claim,)),)))

    def test_the_most_significant_induction_premise(self):
        claim = ("all", (1, (("p", 0), ("q", 0)), ((("q", 0),),)), (1, 0))
        rules = (("a", (), ("p", 0)), ("b", (), ("q", 0)))
        self.problems((("missing case", "all", "b"),), summary("m", (), rules, ((True, (claim,)),)))

    def test_refl(self):
        equal = cases("equal", ("=", ("a",), ("a",)))
        self.problems((("missing case", "equal", "refl"),), summary("m", (), (fact("q"), fact("s")), (equal,)))
        self.problems((), summary("m", (), (), (equal,), (("equal", "refl", (), ()),)))
        self.problems((), summary("m", (), (fact("q"),), (cases("equal", ("=", ("a",), ("b",))),)))

    def test_rules_that_came_later(self):
        first = summary("m", (), NATURALS, ((True, (RIGHT,)),),
                        (("addZero", "natZ", (), ()), ("addZero", "natS", (), ("addZero",))))
        second = summary("n", (), (("natT", (), ("nat", ("t",))),))
        self.problems((), first)
        self.problems((("missing case", "addZero", "natT"),), first, second)
        self.problems((("missing case", "addZero", "natT"),), second, first)
        self.problems((), second, first, summary("o", ("m", "n"), (), (), (("addZero", "natT", (), ()),)))

    def test_entries_for_a_theorem_and_a_rule_of_different_modules(self):
        claims = summary("claims", (), (), (cases("c", P), cases("d", Q)))
        rules = summary("rules", (), (fact("p", P), fact("q", Q)))
        both = summary("both", ("claims", "rules"), (), (), (("d", "q", (), ()),))
        self.problems((("missing case", "c", "p"),), claims, rules, both)

    def test_open_and_others_by_name(self):
        rules = (fact("p"), fact("q", Q))
        self.problems((("missing case", "a", "p"), ("missing argument", "b"), ("missing case", "c", "q")),
                      summary("m", (), rules, (cases("c", Q), plain("b"), cases("a", P))))


class RepeatedTest(LinkingTest):

    def test_each_once_in_the_order_of_the_second_time(self):
        rules = (fact("p"), fact("o"))
        entries = (proofs("a", "b") + (("c", "p", (), ()), ("c", "o", (), ())) + (("c", "o", (), ()),)
                   + proofs("b", "b") + (("c", "p", (), ()),) + proofs("a"))
        self.problems((("repeated case", "c", "o"), ("repeated argument", "b"), ("repeated case", "c", "p"),
                       ("repeated argument", "a")),
                      summary("m", (), rules, (plain("a", "b"), cases("c", P)), entries))

    def test_over_several_summaries(self):
        self.problems((("repeated argument", "b"), ("repeated argument", "a")),
                      summary("m", (), (), (plain("a", "b"),), proofs("a", "b")),
                      summary("n", ("m",), (), (), proofs("b", "b")), summary("o", ("m",), (), (), proofs("b", "a")))

    def test_another_proof_is_a_repetition_too(self):
        self.problems((("repeated argument", "a"),),
                      summary("m", (), (), (plain("a"),), (("a", None, (P,), ()), ("a", None, (Q,), ()))))


class NewCaseTest(LinkingTest):

    def base(self, *inverts, rules=(), name="base"):
        return summary(name, (), rules, (plain(f"c{name}"),), ((f"c{name}", None, inverts, ()),))

    def new(self, atom, other, name="base"):
        return ("new case", f"c{name}", None, atom, other)

    def test_the_order(self):
        rules = (("b", (), ("p", 0)), ("a", (), ("p", ("z",))), ("c", (), ("q", 0)))
        atoms = (("q", ("z",)), ("p", 0))
        self.problems((self.new(atoms[0], "c"), self.new(atoms[1], "a"), self.new(atoms[1], "b"),
                       self.new(atoms[1], "a", "two"), self.new(atoms[1], "b", "two")),
                      self.base(*atoms), summary("more", (), rules), self.base(atoms[1], name="two"))

    def test_the_order_of_entries(self):
        blocks = (plain("y", "x"), cases("c", P))
        entries = (("y", None, (P,), ()), ("c", "o", (P,), ()), ("x", None, (P,), ()))
        self.problems((("new case", "y", None, P, "p"), ("new case", "c", "o", P, "p"),
                       ("new case", "x", None, P, "p")),
                      summary("m", (), (fact("o"),), blocks, entries),
                      summary("n", ("m",), (fact("p"),), (), (("c", "p", (P,), ()),)))

    def test_rules_of_the_module_itself(self):
        self.problems((), self.base(P, rules=(fact("a"),)))
        self.problems((self.new(P, "b"),), self.base(P, rules=(fact("a"),)), summary("more", (), (fact("b"),)))

    def test_rules_of_imports(self):
        first, second = summary("first", (), (fact("a"),)), summary("second", ("first",), (fact("b"),))
        third = summary("third", ("second",), (fact("c"),), (plain("x"),), (("x", None, (P,), ()),))
        fourth = summary("fourth", ("third",), (fact("d"),), (plain("y"),), (("y", None, (P,), ()),))
        self.problems((), first, second, third)
        self.problems((("new case", "x", None, P, "d"),), first, second, third, fourth)
        self.problems((("new case", "x", None, P, "a"), ("new case", "x", None, P, "b")),
                      first, second, ("third", ()) + third[2:])

    def test_modules_that_import_the_rule_by_another_way_only(self):
        rules = summary("rules", (), (fact("a"),))
        self.problems((self.new(P, "a"),), rules, self.base(P), summary("both", ("rules", "base")))

    def test_refl_is_never_new(self):
        self.problems((), self.base(("=", 0, ("s", 0)), ("=", 0, 0)), summary("more", (), (fact("a"),)))

    def test_overlapping(self):
        rules = (("a", (), ("p", ("s", 0), 0)), ("b", (), ("p", 0, 0)), ("c", (), ("p", 0)), ("d", (), ("q", 0, 1)))
        more = summary("more", (), rules)
        self.problems((self.new(("p", ("s", 0), ("z",)), "a"),), self.base(("p", ("s", 0), ("z",))), more)
        self.problems((self.new(("p", 0, 1), "a"), self.new(("p", 0, 1), "b")), self.base(("p", 0, 1)), more)
        self.problems((self.new(("p", ("z",), 0), "b"),), self.base(("p", ("z",), 0)), more)
        self.problems((), self.base(("p", ("y",), ("z",))), more)

    def test_variables_have_nothing_to_do_with_each_other(self):
        """If both had their variables in common, A would have to be s(A)."""
        more = summary("more", (), (("a", (), ("p", ("s", 0), 0)),))
        self.problems((self.new(("p", 0, ("s", 1)), "a"),), self.base(("p", 0, ("s", 1))), more)
        self.problems((self.new(("p", 0, 1), "a"),), self.base(("p", 0, 1)), more)
        self.problems((), self.base(("p", 0, ("s", 0))), more)

    def test_a_repeated_entry_tells_the_same_again(self):
        entry = ("x", None, (P,), ())
        self.problems((("repeated argument", "x"),) + 3 * (("new case", "x", None, P, "a"),),
                      summary("m", (), (), (plain("x"),), 3 * (entry,)), summary("n", (), (fact("a"),)))


class CircularTest(LinkingTest):

    def linked(self, *arrows, names="abcdef"):
        """A summary with a block for each name; each arrow ("a", "b") makes a apply b."""
        uses = {name: tuple(other for one, other in arrows if one == name) for name in names}
        entries = tuple((name, None, (), uses[name]) for name in names)
        return summary("m", (), (), tuple(plain(name) for name in names), entries)

    def circles(self, circular, *arrows, names="abcdef"):
        told = self.linked(*arrows, names=names)
        self.problems(tuple(("circular arguments", name) for name in circular), told)
        self.assertEqual(block_order((told,)) is None, bool(circular))

    def test_chains(self):
        self.circles("", "ab", "bc", "cd", "ad")
        self.circles("ab", "ab", "ba")
        self.circles("abcd", "bc", "dc", "cd", "ab", "ca", "cb", "ef")
        self.circles("cde", "ab", "bc", "ce", "dc", "ed", "ef")
        self.circles("ef", "fe", "ae", "ef", names="fabecd")

    def test_theorems_of_the_own_block_do_not_count(self):
        self.circles("", "aa", "ab", "bb")
        told = summary("m", (), (), (plain("b", "a"), plain("c")),
                       proofs("a", uses=("b", "a", "c")) + proofs("b", uses=("a",)) + proofs("c", uses=("c",)))
        self.problems((), told)
        self.assertEqual(block_order((told,)), ("c", "b"))

    def test_blocks_that_depend_on_each_other_by_different_theorems(self):
        told = summary("m", (), (), (plain("z", "a"), plain("y", "b"), plain("c")),
                       proofs("z", "c") + proofs("a", uses=("b",)) + proofs("y", uses=("z",)) + proofs("b"))
        self.problems((("circular arguments", "y"), ("circular arguments", "z")), told)
        self.assertIsNone(block_order((told,)))

    def test_entries_of_several_modules_together(self):
        blocks = summary("m", (), (fact("p"), fact("o")), (cases("a", P), cases("b", P)),
                         (("a", "p", (), ("b",)), ("b", "p", (), ()), ("b", "o", (), ())))
        self.problems((("missing case", "a", "o"),), blocks)
        self.problems((), blocks, summary("n", ("m",), (), (), (("a", "o", (), ("a", "b")),)))
        more = summary("n", ("m",), (fact("q"),), (), (("a", "o", (), ()), ("a", "q", (), ()), ("b", "q", (), ("a",))))
        self.problems((("circular arguments", "a"), ("circular arguments", "b")), blocks, more)

    def test_against_paths(self):
        """All ways in which three blocks can depend on each other."""
        pairs = [(one, other) for one in "abc" for other in "abc" if one != other]
        for chosen in itertools.product((False, True), repeat=len(pairs)):
            arrows = {pair for pair, taken in zip(pairs, chosen) if taken}
            paths = set(arrows)
            for _ in range(3):
                paths |= {(one, last) for one, middle in paths for other, last in paths if middle == other}
            self.circles("".join(name for name in "abc" if (name, name) in paths), *arrows, names="cab")


class OrderTest(LinkingTest):

    def order(self, expected, *arrows, names="abcdef"):
        told = CircularTest.linked(self, *arrows, names=names)
        self.assertEqual(block_order((told,)), expected)

    def test_by_name(self):
        self.order(tuple("abcdef"), names="cfbead")
        self.order(("aB", "ab", "b"), names=("b", "ab", "aB"))

    def test_the_first_that_is_ready(self):
        self.order(tuple("bacdef"), "ab")
        self.order(tuple("bcdefa"), "af")
        self.order(tuple("fedcba"), "ab", "bc", "cd", "de", "ef")
        self.order(tuple("cbadef"), "ab", "bc", "ac", names="fedcba")
        self.order(tuple("bdacef"), "ad", "ca", "ca")

    def test_open_blocks_and_blocks_of_several_theorems(self):
        blocks = (plain("m", "a"), cases("c", P), plain("n"))
        entries = proofs("m", "n") + proofs("a", uses=("n",)) + (("c", "p", (), ("a", "c")),)
        told = (summary("x", (), (fact("p"),), blocks, entries[:2]), summary("y", ("x",), (), (), entries[2:]))
        self.assertEqual(block_order(told), ("n", "m", "c"))
        self.problems((), *told)

    def test_each_order_is_right(self):
        pairs = [(one, other) for one in "abcd" for other in "abcd" if one < other]
        for chosen in itertools.product((False, True), repeat=len(pairs)):
            arrows = [pair for pair, taken in zip(pairs, chosen) if taken]
            expected = min(order for order in itertools.permutations("abcd")
                           if all(order.index(other) < order.index(one) for one, other in arrows))
            self.order(expected, *arrows, names="dbca")

    def test_without_entries_and_with_other_problems(self):
        self.assertEqual(block_order((summary("m", (), (), (plain("b"), plain("a"))),)), ("a", "b"))
        self.assertEqual(block_order((LISTS, ROPES)), ("split", "tail"))


class AllKindsTest(LinkingTest):

    def test_in_the_order_of_the_table(self):
        base = summary("base", (), (fact("p"),), (plain("x", "y"), plain("u"), cases("c", P)),
                       proofs("x", uses=("u",)) + proofs("u", uses=("x",)) + (("x", None, (P,), ()),))
        more = summary("more", ("base",), (fact("o"),), (), (("c", "o", (P,), ()), ("c", "o", (), ())))
        self.problems((("missing case", "c", "p"), ("missing argument", "y"), ("repeated argument", "x"),
                       ("repeated case", "c", "o"), ("new case", "x", None, P, "o"), ("circular arguments", "u"),
                       ("circular arguments", "x")), base, more)

    def test_summaries_are_not_changed(self):
        told = (LISTS, ROPES)
        before = repr(told)
        problems_of(told)
        block_order(told)
        self.assertEqual(repr(told), before)


class BoundsTest(LinkingTest):

    def too_large(self, *summaries):
        with self.assertRaises(TooLarge):
            problems_of(summaries)

    def test_summaries(self):
        told = [summary(f"m{number}") for number in range(7)]
        self.problems((), *told[:6])
        self.too_large(*told)
        self.problems((("duplicate module", "m0"),), *6 * told[:1])
        self.too_large(*7 * told[:1])
        self.too_large(*12 * told[:1])

    def test_rules(self):
        rules = tuple(fact(f"r{number}") for number in range(25))
        self.problems((), summary("a", (), rules[:12]), summary("b", (), rules[12:24]))
        self.too_large(summary("a", (), rules[:12]), summary("b", (), rules[12:]))
        self.problems((("duplicate name", "r0"),), summary("a", (), 24 * rules[:1]))
        self.too_large(summary("a", (), 25 * rules[:1]))

    def test_theorems(self):
        names = [f"c{number}" for number in range(13)]
        blocks = tuple(plain(*names[start:start + 4]) for start in range(0, 13, 4))
        self.problems((), summary("a", (), (), blocks[:2], proofs(*names[:8])),
                      summary("b", (), (), blocks[2:3], proofs(*names[8:12])))
        self.too_large(summary("a", (), (), blocks))
        self.too_large(summary("a", (), (), blocks[:2]), summary("b", (), (), blocks[2:]))
        self.problems((("duplicate name", "x"),), summary("a", (), (), 12 * (plain("x"),)))
        self.too_large(summary("a", (), (), 13 * (plain("x"),)))

    def test_the_order_of_the_blocks_has_no_bound(self):
        names = [f"c{number:02}" for number in range(40)]
        told = summary("a", (), (), tuple(plain(name) for name in names))
        self.assertEqual(block_order((told,)), tuple(names))


if __name__ == "__main__":
    unittest.main()
