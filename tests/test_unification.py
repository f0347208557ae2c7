"""Unification [40] to [43]."""

import unittest

from openrules.errors import TooLarge
from openrules.terms import depth_of, numbered, size_of, substitute
from openrules.unification import matching, overlaps, unify
from samples import ONE, Z, apart_doubling, broad, doubling, grouped, nested

A, B, C = ("a",), ("b",), ("c",)
LAST = 65535


def small_terms():
    """All terms of a few names and variables, with which every pair is tried."""
    small = [0, 1, 2, A, ("g", 0), ("g", 1), ("g", A), ("g", ("g", 2)), ("f", 0, 1)]
    return small + [("f", left, right) for left in small[:8] for right in small[:8]]


def simple_unify(left, right):
    """The most general common instance, found in the slow way of the text books."""
    replacements = []
    waiting = [(left, right)]
    while waiting:
        one, other = waiting.pop()
        if one == other:
            continue
        if not isinstance(one, int):
            one, other = other, one
        if isinstance(one, int):
            if occurs(one, other):
                return None
            waiting = [(substitute(x, ((one, other),)), substitute(y, ((one, other),))) for x, y in waiting]
            replacements.append((one, other))
        elif one[0] != other[0] or len(one) != len(other):
            return None
        else:
            waiting.extend(zip(one[1:], other[1:]))
    for pair in replacements:
        left = substitute(left, (pair,))
    return numbered((left,))[0]


def occurs(variable, term):
    if isinstance(term, int):
        return variable == term
    return any(occurs(variable, part) for part in term[1:])


class UnifyTest(unittest.TestCase):

    def check(self, left, right, result):
        self.assertEqual(unify(left, right), result)
        self.assertEqual(unify(right, left), result)

    def test_table(self):
        self.check(("f", 0, ("g", 1)), ("f", ("g", 2), 0), ("f", ("g", 0), ("g", 0)))
        self.check(("f", 0, 1), ("f", 1, 0), ("f", 0, 0))
        self.check(7, ("f", 3, 5, 3), ("f", 0, 1, 0))
        self.check(("f", 0, B), ("f", C, 0), None)
        self.check(0, ("f", 0), None)

    def test_equal_terms(self):
        self.check(5, 5, 0)
        self.check(Z, Z, Z)
        self.check(("f", 4, ("g", 9, 4)), ("f", 4, ("g", 9, 4)), ("f", 0, ("g", 1, 0)))

    def test_variables(self):
        self.check(3, LAST, 0)
        self.check(("f", LAST, 0), ("f", 0, ONE), ("f", ONE, ONE))

    def test_different_names(self):
        self.check(A, B, None)
        self.check(("f", 0, A), ("f", 0, B), None)
        self.check(("f", ("g", A)), ("f", ("g", B)), None)

    def test_different_numbers_of_arguments(self):
        self.check(("f", 0), ("f", 1, 2), None)
        self.check(("f",), ("f", 1), None)
        self.check(("h", ("f", 0), 1), ("h", ("f", 1, 1), 1), None)

    def test_names_clash_through_a_variable(self):
        self.check(("f", 0, 0, 1), ("f", 1, A, B), None)
        self.check(("f", 0, 1, 0), ("f", ("g", 1), A, ("g", B)), None)

    def test_a_term_would_contain_itself(self):
        self.check(("f", 0, 0), ("f", 1, ("g", 1)), None)
        self.check(("f", 0, 1), ("f", ("g", 1), ("g", 0)), None)
        self.check(("f", 0, 1, 2), ("f", ("g", 1), ("g", 2), ("g", 0)), None)
        self.check(("f", 0, 1, 2, 3), ("f", 1, 2, 3, ("h", Z, 0)), None)

    def test_a_term_would_contain_itself_beside_the_rest(self):
        self.check(("f", 0, 0, 5), ("f", ("g", 1), ("g", ("g", 1)), A), None)

    def test_chain_that_is_no_circle(self):
        self.check(("f", 0, 1, 2), ("f", ("g", 1), ("g", 2), ("g", 3)),
                   ("f", ("g", ("g", ("g", 0))), ("g", ("g", 0)), ("g", 0)))

    def test_atoms(self):
        self.check(("nat", 0), ("nat", ONE), ("nat", ONE))
        self.check(("nat", 0), ("even", 0), None)
        self.check(("=", 3, ONE), ("=", 4, 3), ("=", ONE, ONE))
        self.check(("=", 3, ("s", 4)), ("=", 4, 3), None)

    def test_numbered_alone(self):
        self.check(("f", 9, 8, 7), ("f", 8, 6, 5), ("f", 0, 0, 1))

    def test_all_pairs_of_small_terms(self):
        for left in small_terms():
            for right in small_terms():
                self.assertEqual(unify(left, right), simple_unify(left, right), (left, right))


class BoundsOfUnifyTest(unittest.TestCase):

    def sized(self, size, leaf):
        """Two terms of size at most 60 whose common instance has a size of 386 + `size`."""
        left = ("h", ("e",) + 8 * (0,), broad(size, leaf))
        right = ("h", ("e", broad(48, leaf), 1, 2, 3, 4, 5, 6, 7), 9)
        self.assertLessEqual(max(size_of(left), size_of(right)), 60)
        return left, right

    def test_size(self):
        for leaf in (Z, 20):
            self.assertEqual(size_of(unify(*self.sized(14, leaf))), 400)
            with self.assertRaises(TooLarge):
                unify(*self.sized(15, leaf))

    def deep(self, last, leaf):
        """Two terms whose common instance has a depth of 32 + `last`."""
        return ("f", 0, 1, 2, 3), ("f", nested(10, 1), nested(10, 2), nested(10, 3), nested(last, leaf))

    def test_depth(self):
        for leaf in (Z, 20):
            self.assertEqual(depth_of(unify(*self.deep(8, leaf))), 40)
            with self.assertRaises(TooLarge):
                unify(*self.deep(9, leaf))

    def test_millions_of_names(self):
        left, right = doubling(0)
        self.assertLessEqual(max(size_of(left), size_of(right)), 60)
        for one, other in ((left, right), (right, left)):
            with self.assertRaises(TooLarge):
                unify(one, other)

    def test_large_parts_but_no_unifier(self):
        left, right = doubling(0)
        self.assertIsNone(unify(("h", left, A), ("h", right, B)))
        self.assertIsNone(unify(("h", A, left), ("h", B, right)))
        self.assertIsNone(unify(("h", left, 26), ("h", right, ("s", 0))))

    def test_two_large_parts_that_are_compared(self):
        parts = [[], []]
        for number in range(26):
            for first in (0, 100):
                parts[number % 2].append(first + number)
                parts[1 - number % 2].append(("g", first + number + 1, first + number + 1))
        left, right = grouped(parts[0]), grouped(parts[1])
        with self.assertRaises(TooLarge):
            unify(("h", left, 0), ("h", right, 100))
        self.assertIsNone(unify(("h", left, 0, 26, 126), ("h", right, 100, A, B)))


class OverlapsTest(unittest.TestCase):

    def check(self, first, second, result):
        self.assertIs(overlaps(first, second), result)
        self.assertIs(overlaps(second, first), result)

    def test_examples(self):
        self.check(("p", 0, A), ("p", B, 0), True)
        self.check(("p", 0, 0), ("p", A, B), False)

    def test_same_integers_are_different_variables(self):
        self.check(("p", 0), ("p", ("s", 0)), True)
        self.check(("p", 0, ("s", 1)), ("p", ("s", 1), 0), True)
        self.check(("p", 3, 4, 3), ("p", 4, 3, ("s", 3)), True)
        self.check(("p", 0, 0, 1), ("p", 0, 1, 1), True)

    def test_variables_up_to_the_last(self):
        self.check(("p", LAST, 0), ("p", ("s", LAST), ("s", 0)), True)
        self.check(("p", LAST, LAST, 0), ("p", ("s", LAST), LAST, LAST), False)
        self.check(("p", LAST, 65534), ("p", 65534, ("s", LAST)), True)
        for other in range(3):
            self.check(("p", LAST), ("p", ("s", other)), True)
            self.check(("p", other), ("p", ("s", LAST)), True)

    def test_not(self):
        self.check(("p", 0), ("q", 0), False)
        self.check(("p", 0), ("p", 0, 1), False)
        self.check(("p", 0, 0), ("p", 1, ("s", 1)), False)

    def test_equations(self):
        self.check(("=", 0, 0), ("=", 1, ("s", 2)), True)
        self.check(("=", 0, 0), ("=", 1, ("s", 1)), False)
        self.check(("=", 0, 0), ("p", 0, 0), False)

    def test_facts(self):
        self.check(("p", ONE), ("p", ONE), True)
        self.check(("p", ONE), ("p", Z), False)
        self.check(("stop",), ("stop",), True)

    def test_millions_of_names(self):
        left, right = apart_doubling()
        self.assertLessEqual(max(size_of(left), size_of(right)), 60)
        self.check(left, right, True)
        self.check(("h", left, A), ("h", right, B), False)
        self.check(("h", left, 0), ("h", right, ("s", 13)), False)
        self.check(*doubling(0), True)


class MatchingTest(unittest.TestCase):

    def test_examples(self):
        self.assertEqual(matching(("f", 5, 1), ("f", Z, 0)), ((1, 0), (5, Z)))
        self.assertEqual(matching(("f", 0, 1), ("f", Z, 0)), ((0, Z), (1, 0)))
        self.assertIsNone(matching(("f", 0, 0), ("f", 1, 2)))
        self.assertTrue(overlaps(("f", 0, 0), ("f", 1, 2)))

    def test_ascending_order(self):
        self.assertEqual(matching(("f", 7, 3, 5, 0), ("f", A, B, C, Z)), ((0, Z), (3, B), (5, C), (7, A)))
        self.assertEqual(matching(("f", 10, 9, LAST), ("f", A, B, C)), ((9, B), (10, A), (LAST, C)))

    def test_variables_of_the_term_are_like_names(self):
        self.assertEqual(matching(("f", 0, 0), ("f", 1, 1)), ((0, 1),))
        self.assertEqual(matching(("f", 0, 1), ("f", 1, 0)), ((0, 1), (1, 0)))
        self.assertIsNone(matching(("f", Z), ("f", 0)))
        self.assertIsNone(matching(("f", ("s", 0)), ("f", 0)))

    def test_same_integer_in_both(self):
        self.assertEqual(matching(0, ("s", 0)), ((0, ("s", 0)),))
        self.assertEqual(matching(("f", 0, ("s", 0)), ("f", ("s", 0), ("s", ("s", 0)))), ((0, ("s", 0)),))
        self.assertIsNone(matching(("f", 0, ("s", 0)), ("f", ("s", 0), ("s", 0))))

    def test_a_variable_in_several_places(self):
        self.assertEqual(matching(("f", 2, ("g", 2, 2)), ("f", ONE, ("g", ONE, ONE))), ((2, ONE),))
        self.assertIsNone(matching(("f", 2, ("g", 2, 2)), ("f", ONE, ("g", ONE, Z))))
        self.assertIsNone(matching(("f", 2, ("g", 2)), ("f", ONE, ("g", Z))))

    def test_names_and_numbers_of_arguments(self):
        self.assertIsNone(matching(("f", 0), ("g", 0)))
        self.assertIsNone(matching(("f", 0), ("f", 0, 0)))
        self.assertIsNone(matching(("f", ("g", 0)), ("f", ("g",))))

    def test_without_variables(self):
        self.assertEqual(matching(ONE, ONE), ())
        self.assertIsNone(matching(ONE, Z))

    def test_a_variable_alone(self):
        self.assertEqual(matching(3, 3), ((3, 3),))
        self.assertEqual(matching(3, 9), ((3, 9),))

    def test_atoms(self):
        self.assertEqual(matching(("=", 0, 0), ("=", ONE, ONE)), ((0, ONE),))
        self.assertIsNone(matching(("=", 0, 0), ("=", ONE, Z)))

    def test_deep_and_large(self):
        self.assertEqual(matching(nested(30, 4), nested(59, 7)), ((4, nested(29, 7)),))
        self.assertEqual(matching(("f", 0, 0), ("f", broad(499), broad(499))), ((0, broad(499)),))

    def test_all_pairs_of_small_terms(self):
        for pattern in small_terms():
            for term in small_terms():
                pairs = matching(pattern, term)
                apart = substitute(term, ((0, ("x",)), (1, ("y",)), (2, ("z",))))
                self.assertEqual(pairs is not None, simple_unify(pattern, apart) is not None, (pattern, term))
                if pairs is not None:
                    self.assertEqual(substitute(pattern, pairs), term)


if __name__ == "__main__":
    unittest.main()
