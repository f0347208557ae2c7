"""The errors [5] and their attributes."""

import unittest

from openrules import errors

PLAIN = ("WrongImports", "WrongDecision", "TooLarge", "HasExistentials", "NoOpenGoal", "NothingToUndo", "ScriptFull")
NAMED = ("InvalidRule", "InvalidClaim", "DuplicateModule", "DuplicateName", "NotDetermined", "UnknownClaim")
PLACED = ("WrongDerivation", "InvalidNumbers")
ALL = PLAIN + NAMED + PLACED + ("EntryRefused", "TacticFailed", "LinkProblems")


def error_class(name):
    return getattr(errors, name)


class ErrorsTest(unittest.TestCase):

    def test_all_errors_and_no_others(self):
        found = [name for name, value in vars(errors).items() if isinstance(value, type)]
        self.assertEqual(sorted(found), sorted(ALL + ("RuleError",)))

    def test_defined_in_this_file(self):
        for name in ALL + ("RuleError",):
            self.assertEqual(error_class(name).__module__, "openrules.errors")
            self.assertEqual(error_class(name).__name__, name)

    def test_base_class(self):
        self.assertTrue(issubclass(errors.RuleError, ValueError))
        for name in ALL:
            self.assertTrue(issubclass(error_class(name), errors.RuleError), name)

    def test_no_error_is_a_subclass_of_another_one(self):
        for name in ALL:
            for other in ALL:
                if name != other:
                    self.assertFalse(issubclass(error_class(name), error_class(other)), (name, other))

    def test_without_attributes(self):
        for name in PLAIN:
            self.assertEqual(vars(error_class(name)()), {}, name)

    def test_attribute_name(self):
        for name in NAMED:
            self.assertEqual(vars(error_class(name)("natZ")), {"name": "natZ"})

    def test_attribute_place(self):
        for name in PLACED:
            self.assertEqual(vars(error_class(name)(7)), {"place": 7})

    def test_attributes_of_the_other_errors(self):
        self.assertEqual(vars(errors.EntryRefused(3, "case")), {"place": 3, "reason": "case"})
        self.assertEqual(vars(errors.TacticFailed("search")), {"reason": "search"})
        problems = (("missing case", "addZero", "natT"),)
        self.assertEqual(vars(errors.LinkProblems(problems)), {"problems": problems})

    def test_caught_as_the_base_classes(self):
        for base in (errors.RuleError, ValueError):
            with self.assertRaises(base):
                raise errors.UnknownClaim("addZero")
            with self.assertRaises(base):
                raise errors.TooLarge()


if __name__ == "__main__":
    unittest.main()
