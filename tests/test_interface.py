"""The names and the arguments of the interface, and the files in which they are defined."""

import doctest
import importlib
import inspect
import pathlib
import unittest

from openrules.modules import Module
from openrules.sessions import Session
from openrules.systems import System

FUNCTIONS = {
    "terms": ("size_of(term)", "depth_of(term)", "variables_of(terms)", "subterms_of(term)", "relation_of(atom)",
              "substitute(term, pairs)", "numbered(terms)"),
    "unification": ("unify(left, right)", "matching(pattern, term)", "overlaps(first, second)"),
    "rules": ("is_valid_rule(rule)", "numbered_rule(rule)", "is_determined(rule)", "is_analytic(rule)"),
    "derivations": ("fact_of(rules, derivation)", "height_of(derivation)", "rules_in(derivation)"),
    "facts": ("facts_within(rules, terms, height)", "derivation_within(rules, terms, height, fact)"),
    "statements": ("is_valid_statement(statement)", "numbered_statement(premises, disjuncts)",
                   "statement_of_rule(rule)", "rule_of_statement(name, statement)",
                   "without_equation(statement, number)", "counterexample(statement, facts, terms)"),
    "deciding": ("examined_atoms(rules, statement)", "decide(rules, statement)",
                 "check_decision(rules, statement, decision)", "analytic_bound(rules, statement)"),
    "expanding": ("expanded(rules, extra, decision, derivation)",),
    "claims": ("is_valid_block(block)",),
    "goals": ("numbered_goal(goal)", "in_limits(goal)", "initial_goal(claim)", "inversion(goal, hypothesis, rule)",
              "inversions(rules, goal, hypothesis)", "case_goal(claim, rule)",
              "with_disjunct(goal, statement, disjunct, terms)"),
    "kernel": ("is_lower(bounds)", "after_step(scope, claim, goal, step)",
               "check_argument(scope, claim, goal, argument)"),
    "arguments": ("step_count(argument)", "argument_depth(argument)", "steps_of(argument)",
                  "inverted_atoms(scope, claim, goal, argument)", "applied_claims(argument)",
                  "trimmed(scope, claim, goal, argument)", "argument_of(rules, statement, decision)"),
    "modules": ("summaries_of(modules)", "scope_of(summaries)"),
    "linking": ("problems_of(summaries)", "block_order(summaries)"),
    "plans": ("plan_of(scope, entries)",),
    "machine": ("run_plan(plan, claim, terms, derivations)",),
    "systems": ("link(modules)",),
    "tactics": ("run_tactic(scope, claim, goal, tactic)", "filled(argument, arguments)"),
    "numbers": ("numbers_of(parts)",),
    "reading": ("parts_of(numbers)",),
}
CLASSES = {
    "modules": ("Module(parts, imports=())",),
    "systems": ("System(scope, entries)",),
    "sessions": ("Session(scope, claim, *, rule=None)",),
}
PROPERTIES = {
    Module: ("parts", "summary", "summaries"),
    System: ("rules", "blocks", "claims"),
    Session: ("goals", "script", "argument"),
}
METHODS = {
    System: ("__len__(self)", "__contains__(self, name)", "__iter__(self)", "decide(self, statement)",
             "make_plan(self)", "carry_out(self, claim, terms, derivations)"),
    Session: ("run(self, tactic)", "undo(self)"),
}


class InterfaceTest(unittest.TestCase):

    def test_functions_and_classes(self):
        for name in list(FUNCTIONS) + list(CLASSES):
            module = importlib.import_module(f"openrules.{name}")
            for line in FUNCTIONS.get(name, ()) + CLASSES.get(name, ()):
                found = getattr(module, line.partition("(")[0])
                self.assertEqual(found.__module__, module.__name__)
                self.assertEqual(found.__name__ + str(inspect.signature(found)), line)

    def test_properties(self):
        for found, words in PROPERTIES.items():
            for word in words:
                self.assertIsInstance(vars(found)[word], property)

    def test_methods_are_defined_in_the_class_itself(self):
        for found, lines in METHODS.items():
            for line in lines:
                method = vars(found)[line.partition("(")[0]]
                self.assertEqual(method.__name__ + str(inspect.signature(method)), line)

    def test_the_only_generator(self):
        for name, told in FUNCTIONS.items():
            module = importlib.import_module(f"openrules.{name}")
            for line in told:
                word = line.partition("(")[0]
                self.assertEqual(inspect.isgeneratorfunction(getattr(module, word)), word == "steps_of")

    def test_examples_of_the_readme(self):
        path = pathlib.Path(__file__).resolve().parent.parent / "README.md"
        result = doctest.testfile(str(path), module_relative=False)
        self.assertGreater(result.attempted, 5)
        self.assertEqual(result.failed, 0)


if __name__ == "__main__":
    unittest.main()
