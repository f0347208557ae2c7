"""Terms [20] to [24]."""

import unittest

from openrules.terms import depth_of, numbered, relation_of, size_of, substitute, subterms_of, variables_of
from samples import ONE, TWO, Z, broad, nested

BROAD = ("f", 0, Z, ONE)
EQUATION = ("=", 0, ("s", 0))
LAST = 65535


class SizeTest(unittest.TestCase):

    def test_table(self):
        rows = ((0, 1, 1), (Z, 1, 1), (("s", 0), 2, 2), (BROAD, 5, 3), (EQUATION, 4, 3))
        for term, size, depth in rows:
            self.assertEqual((size_of(term), depth_of(term)), (size, depth), term)

    def test_every_occurrence_counts(self):
        self.assertEqual(size_of(("f", 0, 0, ("f", 0, 0))), 6)
        self.assertEqual(size_of(("f",) + 8 * (Z,)), 9)

    def test_variables_at_the_edges(self):
        self.assertEqual((size_of(LAST), depth_of(LAST)), (1, 1))
        self.assertEqual(size_of(("f", LAST, 0)), 3)

    def test_depth_is_the_greatest_of_all_arguments(self):
        self.assertEqual(depth_of(("f", nested(3, 0), 0)), 5)
        self.assertEqual(depth_of(("f", 0, nested(3, 0))), 5)
        self.assertEqual(depth_of(("f", 0, nested(3, 0), Z)), 5)

    def test_deep_terms(self):
        self.assertEqual((size_of(nested(59, 0)), depth_of(nested(59, 0))), (60, 60))
        self.assertEqual((size_of(nested(59, Z)), depth_of(nested(59, Z))), (60, 60))
        self.assertEqual(depth_of(("=", nested(58, 0), 0)), 60)

    def test_large_terms(self):
        for size in (999, 1000):
            self.assertEqual(size_of(broad(size)), size)
        deep = ("f", nested(58, Z), broad(1000 - 60))
        self.assertEqual((size_of(deep), depth_of(deep)), (1000, 60))


class VariablesTest(unittest.TestCase):

    def test_order_of_first_occurrences(self):
        self.assertEqual(variables_of((("f", 3, ("g", 1, 3), 0),)), (3, 1, 0))
        self.assertEqual(variables_of((("f", ("g", 5), 2), 9, ("p", 2, 7))), (5, 2, 9, 7))
        self.assertEqual(variables_of((("f", ("g", ("h", 4), 2), 1),)), (4, 2, 1))

    def test_variables_themselves(self):
        self.assertEqual(variables_of((LAST, 0, LAST)), (LAST, 0))

    def test_equations(self):
        self.assertEqual(variables_of((("=", 2, ("s", 1)),)), (2, 1))

    def test_nothing(self):
        self.assertEqual(variables_of(()), ())
        self.assertEqual(variables_of((Z, ONE)), ())

    def test_forty_terms(self):
        self.assertEqual(variables_of(tuple(range(40, 0, -1))), tuple(range(40, 0, -1)))

    def test_deep(self):
        self.assertEqual(variables_of((nested(59, 8),)), (8,))


class SubtermsTest(unittest.TestCase):

    def test_example(self):
        self.assertEqual(subterms_of(BROAD), (BROAD, 0, Z, ONE))

    def test_a_term_before_its_arguments(self):
        term = ("f", ("g", ("h", 1), 0), ("h", 2))
        self.assertEqual(subterms_of(term), (term, ("g", ("h", 1), 0), ("h", 1), 1, 0, ("h", 2), 2))

    def test_equal_subterms_once(self):
        self.assertEqual(subterms_of(("f", ONE, ("g", ONE), Z)), (("f", ONE, ("g", ONE), Z), ONE, Z, ("g", ONE)))
        self.assertEqual(subterms_of(("f", 0, 0)), (("f", 0, 0), 0))

    def test_same_name_with_different_numbers_of_arguments(self):
        term = ("f", ("f", 0), ("f",), ("f", 0, 0))
        self.assertEqual(subterms_of(term), (term, ("f", 0), 0, ("f",), ("f", 0, 0)))

    def test_variables_are_not_names(self):
        term = ("f", ("x1",), 1, ("x", 1), ("x", ("x1",)))
        self.assertEqual(subterms_of(term), (term, ("x1",), 1, ("x", 1), ("x", ("x1",))))

    def test_single(self):
        self.assertEqual(subterms_of(LAST), (LAST,))
        self.assertEqual(subterms_of(Z), (Z,))

    def test_atoms(self):
        self.assertEqual(subterms_of(EQUATION), (EQUATION, 0, ("s", 0)))

    def test_deep_and_large(self):
        deep = nested(59, 0)
        self.assertEqual(subterms_of(deep), tuple(nested(59 - count, 0) for count in range(60)))
        large = broad(1000)
        self.assertEqual(subterms_of(large)[0], large)
        self.assertEqual(len(subterms_of(large)), len({repr(part) for part in subterms_of(large)}))


class RelationTest(unittest.TestCase):

    def test_relations(self):
        self.assertEqual(relation_of(("nat", 0)), ("nat", 1))
        self.assertEqual(relation_of(("add", 0, 1, Z)), ("add", 3))
        self.assertEqual(relation_of(("stop",)), ("stop", 0))
        self.assertEqual(relation_of(EQUATION), ("=", 2))
        self.assertNotEqual(relation_of(("f", 0)), relation_of(("f", 0, 0)))


class SubstituteTest(unittest.TestCase):

    def test_example(self):
        self.assertEqual(substitute(("f", 0, 1, 2), ((1, 0), (0, ("s", 1)))), ("f", ("s", 1), 0, 2))

    def test_two_variables_exchanged(self):
        self.assertEqual(substitute(("f", 0, ("g", 1, 0)), ((0, 1), (1, 0))), ("f", 1, ("g", 0, 1)))

    def test_pairs_in_any_order(self):
        pairs = ((2, Z), (0, 1), (1, ("s", 2)))
        for order in (pairs, pairs[::-1], pairs[1:] + pairs[:1]):
            self.assertEqual(substitute(("f", 0, 1, 2), order), ("f", 1, ("s", 2), Z))

    def test_variables_that_do_not_occur(self):
        self.assertEqual(substitute(("f", 0), ((1, Z), (7, 0))), ("f", 0))
        self.assertEqual(substitute(Z, ((0, ONE),)), Z)

    def test_no_pairs(self):
        self.assertEqual(substitute(("f", 3, LAST), ()), ("f", 3, LAST))

    def test_a_variable_itself(self):
        self.assertEqual(substitute(5, ((5, TWO),)), TWO)
        self.assertEqual(substitute(5, ((4, TWO),)), 5)

    def test_equations_and_the_last_variable(self):
        self.assertEqual(substitute(("=", LAST, 0), ((LAST, Z), (0, LAST))), ("=", Z, LAST))

    def test_the_term_put_in_contains_the_variable(self):
        self.assertEqual(substitute(("s", 0), ((0, ("s", 0)),)), ("s", ("s", 0)))

    def test_deep(self):
        self.assertEqual(substitute(nested(30, 0), ((0, nested(29, Z)),)), nested(59, Z))


class NumberedTest(unittest.TestCase):

    def test_example(self):
        self.assertEqual(numbered((7, ("f", 3, 7), ("g", 0))), (0, ("f", 1, 0), ("g", 2)))

    def test_through_several_terms_together(self):
        self.assertEqual(numbered((("f", 9), ("g", 4, 9), ("=", 4, 1))), (("f", 0), ("g", 1, 0), ("=", 1, 2)))

    def test_numbering_again_changes_nothing(self):
        terms = (("f", 1, ("g", 0, LAST)), LAST, ("h", 2, 1))
        once = numbered(terms)
        self.assertEqual(once, (("f", 0, ("g", 1, 2)), 2, ("h", 3, 0)))
        self.assertEqual(numbered(once), once)

    def test_variables_exchanged(self):
        self.assertEqual(numbered((("f", 1, 0, 2),)), (("f", 0, 1, 2),))

    def test_nothing(self):
        self.assertEqual(numbered(()), ())
        self.assertEqual(numbered((Z, TWO)), (Z, TWO))

    def test_arguments_stay_as_they_are(self):
        terms = (("f", 3, ("g", 7)),)
        numbered(terms)
        substitute(terms[0], ((3, Z),))
        self.assertEqual(terms, (("f", 3, ("g", 7)),))


if __name__ == "__main__":
    unittest.main()
