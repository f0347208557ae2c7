"""Expanding derivations: a rule that follows from other ones is replaced by them."""

from openrules.deciding import check_decision
from openrules.decisions import needed_steps, terms_of_step
from openrules.derivations import fact_of
from openrules.errors import WrongDecision, WrongDerivation
from openrules.statements import statement_of_rule
from openrules.terms import instance_of, substitute, variables_of
from openrules.weights import joined, require_small

ANY = ("any",)


def expanded(rules, extra, decision, derivation):
    """Return the derivation of the same fact by the rules alone, where `extra` is replaced as the decision tells.

    Raises WrongDecision, WrongDerivation or TooLarge, in this order.
    """
    statement = statement_of_rule(extra)
    right = check_decision(rules, statement, decision)
    if not right or not decision[0]:
        raise WrongDecision()
    if fact_of(rules + (extra,), derivation) is None:
        raise WrongDerivation(0)
    recipe = _recipe(rules, statement, decision)
    return _expanded(extra, recipe, derivation)[2]


def _recipe(rules, statement, decision):
    """Return the list of the needed steps as (number, name, terms, numbers of steps), the conclusion's step last.

    For the step of a premise, the name is None and the only number that of the premise.
    """
    universals, premises, disjuncts = statement
    steps = decision[2]
    recipe = []
    for number in needed_steps(steps, disjuncts[0]):
        atom, name, numbers = steps[number]
        if name is None:
            recipe.append((number, None, (), (premises.index(atom),)))
        else:
            terms = terms_of_step(rules, steps, number)
            foreign = tuple((variable, ANY) for variable in variables_of(terms) if variable >= universals)
            recipe.append((number, name, tuple(substitute(term, foreign) for term in terms), numbers))
    return recipe


def _expanded(extra, recipe, derivation):
    """Return the weighed derivation that results from expanding the derivation.

    Only what becomes part of the result is expanded, so that the first part that is too large may be refused.
    """
    name, terms, derivations = derivation
    if name != extra[0]:
        return joined(name, terms, tuple(_expanded(extra, recipe, inner) for inner in derivations))
    meant = _meanings(extra, terms)
    parts = {}
    for number, rule, needed, numbers in recipe:
        if rule is None:
            part = _expanded(extra, recipe, derivations[numbers[0]])
        else:
            chosen = tuple(instance_of(term, meant) for term in needed)
            require_small(chosen)
            part = joined(rule, chosen, tuple(parts[earlier] for earlier in numbers))
        parts[number] = part
    return part


def _meanings(extra, terms):
    """Return a dict of the terms for which the variables of the statement stand that `extra` is."""
    _, premises, conclusion = extra
    return {place: terms[variable] for place, variable in enumerate(variables_of(premises + (conclusion,)))}
