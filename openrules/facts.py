"""Facts that have a derivation in which all terms are given ones."""

from openrules.choices import choice_count, choices_of
from openrules.errors import TooLarge
from openrules.rules import variables_of_rule, with_refl
from openrules.terms import key_of, substitute

MOST_CHOICES = 600


def facts_within(rules, terms, height):
    """Return the facts within the terms and the height, in ascending order.

    Raises TooLarge if there are more than 600 choices of terms for the variables of the rules and refl.
    """
    found = _derived(rules, terms, height)
    return tuple(sorted([found[key][0] for key in found]))


def derivation_within(rules, terms, height, fact):
    """Return a derivation of the fact of the least height, or None if the fact is not within the height.

    Raises TooLarge as facts_within does.
    """
    found = _derived(rules, terms, height)
    key = key_of(fact)
    if key in found:
        return found[key][1]
    return None


def _derived(rules, terms, height):
    """Return a dict with the pair of the fact and a derivation of the least height for the key of each fact."""
    instances = _ground_instances(rules, terms)
    found = {}
    for _ in range(height):
        added = {}
        for name, chosen, premises, key, fact in instances:
            if key not in found and all(premise in found for premise in premises):
                added[key] = (fact, (name, chosen, tuple(found[premise][1] for premise in premises)))
        found.update(added)
    return found


def _ground_instances(rules, terms):
    """Return (name, terms, keys of the premises, key of the fact, fact) for each choice of terms for each rule."""
    counts = {rule[0]: len(variables_of_rule(rule)) for rule in with_refl(rules)}
    if sum([choice_count(len(terms), counts[name]) for name in counts]) > MOST_CHOICES:
        raise TooLarge()
    instances = []
    for name, premises, conclusion in with_refl(rules):
        for chosen in choices_of(terms, counts[name]):
            pairs = tuple(enumerate(chosen))
            keys = [key_of(substitute(premise, pairs)) for premise in premises]
            fact = substitute(conclusion, pairs)
            instances.append((name, chosen, keys, key_of(fact), fact))
    return instances
