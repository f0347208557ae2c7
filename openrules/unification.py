"""Unification, matching and overlapping of terms and atoms."""

from openrules.errors import TooLarge
from openrules.terms import numbered, shifted
from openrules.unifiers import measured, unified, unifier_of

MOST_SIZE = 400
MOST_DEPTH = 40
ALL_VARIABLES = 65536


def unify(left, right):
    """Return the most general common instance of two terms that share their variables, or None.

    Raises TooLarge if it has a size of more than 400 or a depth of more than 40.
    """
    unifier = unifier_of(left, right)
    if unifier is None:
        return None
    size, depth = measured(left, unifier)
    if size > MOST_SIZE or depth > MOST_DEPTH:
        raise TooLarge()
    return numbered((unified(left, unifier),))[0]


def matching(pattern, term):
    """Return the pairs (variable, term) with which the pattern becomes the term, or None."""
    found = {}
    waiting = [(pattern, term)]
    while waiting:
        general, special = waiting.pop()
        if isinstance(general, int):
            if found.setdefault(general, special) != special:
                return None
        elif isinstance(special, int) or general[0] != special[0] or len(general) != len(special):
            return None
        else:
            waiting.extend(list(zip(general[1:], special[1:])))
    return tuple((variable, found[variable]) for variable in sorted(found))


def overlaps(first, second):
    """Return whether some fact is an instance of both atoms, each of which has its own variables."""
    return unifier_of(first, shifted(second, ALL_VARIABLES)) is not None
