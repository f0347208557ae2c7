"""What a scope has under a name."""

from openrules.claims import names_of_claims
from openrules.rules import rule_named


def rule_in(scope, name):
    """Return the rule of the scope with this name, refl included, or None if there is none."""
    return rule_named(scope[0], name)


def block_with(scope, name):
    """Return the block of the scope that has the theorem with this name, or None if there is none."""
    for block in scope[1]:
        if name in names_of_claims(block):
            return block
    return None


def claim_in(scope, name):
    """Return the theorem of the scope with this name, or None if there is none."""
    for _, claims in scope[1]:
        for claim in claims:
            if claim[0] == name:
                return claim
    return None


def repeated(names):
    """Return the list of the names that occur more than once, in the order in which they occur for the second time."""
    counts = {}
    found = []
    for name in names:
        counts[name] = counts.get(name, 0) + 1
        if counts[name] == 2:
            found.append(name)
    return found
