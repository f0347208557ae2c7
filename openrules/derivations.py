"""Derivations: whether they are some by given rules, their facts, heights and numbers of rules."""

from openrules.rules import variables_of_rule, with_refl
from openrules.terms import substitute, variables_of


def fact_of(rules, derivation):
    """Return the fact of the derivation, or None if it is not a derivation by the rules and refl."""
    return _fact({rule[0]: rule for rule in with_refl(rules)}, derivation)


def _fact(table, derivation):
    name, terms, derivations = derivation
    if name not in table or variables_of(terms):
        return None
    rule = table[name]
    _, premises, conclusion = rule
    if len(terms) != len(variables_of_rule(rule)):
        return None
    pairs = tuple(enumerate(terms))
    needed = [substitute(premise, pairs) for premise in premises]
    if [_fact(table, inner) for inner in derivations] != needed:
        return None
    return substitute(conclusion, pairs)


def height_of(derivation):
    """Return 1 without derivations, otherwise 1 more than the greatest height of the derivations."""
    return 1 + max([height_of(inner) for inner in derivation[2]], default=0)


def rules_in(derivation):
    """Return the number of the rules; a derivation that occurs several times counts each time."""
    return 1 + sum([rules_in(inner) for inner in derivation[2]])
