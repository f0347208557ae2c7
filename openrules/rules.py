"""Rules: the rule refl, valid rules, and rules whose conclusions tell much about their premises."""

from openrules.terms import numbered, subterms_of, variables_of
from openrules.validity import is_equation, is_name, is_valid_atom

REFL = ("refl", (), ("=", 0, 0))
MOST_PREMISES = 4
MOST_VARIABLES = 12


def atoms_of_rule(rule):
    """Return the conclusion of the rule and then its premises, the order in which variables are numbered."""
    _, premises, conclusion = rule
    return (conclusion,) + premises


def variables_of_rule(rule):
    """Return the variables of the rule in the order in which they are numbered."""
    return variables_of(atoms_of_rule(rule))


def with_refl(rules):
    """Return the rules and refl."""
    return rules + (REFL,)


def by_name(rules):
    """Return the rules and refl in ascending order of their names."""
    return tuple(sorted(with_refl(rules), key=lambda rule: rule[0]))


def rule_named(rules, name):
    """Return the rule with this name, refl included, or None if there is none."""
    for rule in with_refl(rules):
        if rule[0] == name:
            return rule
    return None


def is_valid_rule(rule):
    """Return whether the rule is valid; any triples of the form of a rule may be passed."""
    name, premises, conclusion = rule
    if not is_name(name) or len(premises) > MOST_PREMISES:
        return False
    if not all(is_valid_atom(atom) for atom in atoms_of_rule(rule)) or is_equation(conclusion):
        return False
    return len(variables_of_rule(rule)) <= MOST_VARIABLES and numbered_rule(rule) == rule


def numbered_rule(rule):
    """Return the rule with its variables numbered, first the conclusion and then the premises."""
    atoms = numbered(atoms_of_rule(rule))
    return (rule[0], atoms[1:], atoms[0])


def is_determined(rule):
    """Return whether every variable of the premises occurs in the conclusion."""
    return len(variables_of_rule(rule)) == len(variables_of((rule[2],)))


def is_analytic(rule):
    """Return whether each argument of each premise is ground or a subterm of an argument of the conclusion."""
    _, premises, conclusion = rule
    parts = [part for argument in conclusion[1:] for part in subterms_of(argument)]
    arguments = [argument for premise in premises for argument in premise[1:]]
    return all(argument in parts or not variables_of((argument,)) for argument in arguments)
