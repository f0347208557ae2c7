"""Derivations that are made step by step, and weighed before each step.

A weighed derivation is a tuple (count, height, derivation, parts): the number of rules, the height, the
derivation itself, and the tuple of the weighed derivations within it. Parts that occur several times are
one object, and count each time: so derivations are refused as soon as they are too large, never walked through.
"""

from openrules.errors import TooLarge
from openrules.terms import depth_of, size_of

MOST_RULES = 2000
MOST_HEIGHT = 60
MOST_SIZE = 200
MOST_DEPTH = 40


def require_small(terms):
    """Raise TooLarge if one of the terms is too large for a derivation."""
    if any(size_of(term) > MOST_SIZE or depth_of(term) > MOST_DEPTH for term in terms):
        raise TooLarge()


def joined(name, terms, parts):
    """Return the weighed derivation by the rule with this name, these terms and these weighed derivations.

    Raises TooLarge if it has too many rules or too great a height.
    """
    made = _joined(name, terms, parts)
    if made[0] > MOST_RULES or made[1] > MOST_HEIGHT:
        raise TooLarge()
    return made


def weighed(derivation):
    """Return the weighed derivation."""
    name, terms, derivations = derivation
    return _joined(name, terms, tuple(weighed(inner) for inner in derivations))


def _joined(name, terms, parts):
    count = 1 + sum([part[0] for part in parts])
    height = 1 + max([part[1] for part in parts], default=0)
    return (count, height, (name, terms, tuple(part[2] for part in parts)), parts)
