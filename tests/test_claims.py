"""Theorems and blocks [120], [121]."""

import unittest

from openrules.claims import is_valid_block
from samples import EVEN, ODD, RIGHT, Z, broad

P = ("p",)


def claim(name, premises, *induction):
    """A theorem with so many premises and these induction premises."""
    return (name, (0, premises * (P,), ()), induction)


class ValidBlockTest(unittest.TestCase):

    def valid(self, is_open, *claims):
        self.assertIs(is_valid_block((is_open, claims)), True, claims)

    def invalid(self, is_open, *claims):
        self.assertIs(is_valid_block((is_open, claims)), False, claims)

    def test_examples(self):
        self.valid(True, RIGHT)
        self.valid(True, EVEN, ODD)
        self.valid(False, EVEN, ODD)

    def test_number_of_theorems(self):
        for is_open in (True, False):
            self.invalid(is_open)
            self.valid(is_open, *(claim(f"c{number}", 1, 0) for number in range(4)))
            self.invalid(is_open, *(claim(f"c{number}", 1, 0) for number in range(5)))
            self.invalid(is_open, *(claim(f"c{number}", 1, 0) for number in range(30)))

    def test_names(self):
        for name in ("a", "refl", "a" * 16, "aZ9"):
            self.valid(False, claim(name, 0))
            self.valid(False, claim("b", 0), claim(name, 0))
        for name in ("", "=", "A", "9", "a" * 17, "a_b", "a b"):
            self.invalid(False, claim(name, 0))
            self.invalid(False, claim("b", 0), claim(name, 0))

    def test_names_may_be_equal(self):
        self.valid(True, claim("a", 1, 0), claim("a", 1, 0))

    def test_statements(self):
        good = claim("a", 1, 0)
        for statement in ((1, (P,), ()), (0, (P,), ((),)), (1, (("p", 0),) * 5, ()), (0, (("p", broad(60)),), ()),
                          (0, (("P",),), ())):
            self.invalid(False, ("a", statement, (0,)))
            self.invalid(True, good, ("b", statement, (0,)))
        self.valid(True, good, ("b", (1, (("=", 0, Z),), ()), (0,)))

    def test_numbers_of_induction_premises(self):
        self.valid(True, claim("a", 4, 3, 0, 2, 1))
        self.valid(False, claim("a", 4, 3, 0, 2, 1), claim("b", 4, 0, 1, 2, 3))
        self.invalid(True, claim("a", 4, 0, 1, 2, 4))
        self.invalid(True, claim("a", 1, 1))
        self.invalid(True, claim("a", 1, 999))
        self.invalid(False, claim("a", 0, 0))
        self.invalid(True, claim("a", 1, 0), claim("b", 1, 1))

    def test_different_induction_premises(self):
        self.invalid(True, claim("a", 2, 0, 0))
        self.invalid(False, claim("a", 2, 1, 0, 1))
        self.invalid(True, claim("b", 2, 0, 1), claim("a", 2, 1, 1))
        self.invalid(False, claim("a", 1, *30 * (0,)))

    def test_the_same_number_of_induction_premises(self):
        for is_open in (True, False):
            self.valid(is_open, claim("a", 2, 1), claim("b", 3, 2), claim("c", 1, 0))
            self.invalid(is_open, claim("a", 2, 1), claim("b", 2, 0, 1))
            self.invalid(is_open, claim("a", 2, 1, 0), claim("b", 2, 0))
            self.invalid(is_open, claim("a", 2, 1), claim("b", 2, 1), claim("c", 2))
        self.invalid(False, claim("a", 2), claim("b", 2, 1))

    def test_open_blocks_have_induction_premises(self):
        self.invalid(True, claim("a", 2))
        self.invalid(True, claim("a", 2), claim("b", 2))
        self.valid(False, claim("a", 2))
        self.valid(False, claim("a", 0), claim("b", 2))


if __name__ == "__main__":
    unittest.main()
