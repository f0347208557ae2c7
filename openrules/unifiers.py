"""Most general unifiers. What they put for a variable is measured before anyone walks through it.

A unifier is a dict: for each variable of the two terms it has the triple of the size, the depth
and the term that replaces this variable. Such a term can have millions of names; it takes little
space only because equal parts of it are one object. So look at the sizes first.
"""

from openrules.terms import instance_of, key_of, relation_of, subterms_of
from openrules.validity import is_small


def unifier_of(left, right):
    """Return a most general unifier of two terms that share their variables, or None if there is none."""
    # Most rules that are tried clash with an atom already here, and this is far cheaper than what follows.
    if _is_clash(left, right):
        return None
    terms = subterms_of(("=", left, right))
    numbers = {key_of(term): number for number, term in enumerate(terms)}
    parts = [_numbers_of_parts(term, numbers) for term in terms]
    leaders = _joined(terms, parts)
    if leaders is None:
        return None
    written = _written(terms, parts, leaders)
    if written is None:
        return None
    places = [place for place, term in enumerate(terms) if isinstance(term, int)]
    return {terms[place]: written[_leader(leaders, place)] for place in places}


def measured(term, unifier):
    """Return the pair of the size and the depth that the term has after the unifier is applied."""
    if isinstance(term, int):
        return unifier.get(term, (1, 1))[:2]
    return _around([measured(part, unifier) for part in term[1:]])


def are_small(atoms, unifier):
    """Return whether the atoms have the size and the depth of valid ones after the unifier is applied."""
    measures = [measured(atom, unifier) for atom in atoms]
    return all(is_small(size, depth) for size, depth in measures)


def replaced_by(unifier):
    """Return the dict of the terms that replace the variables."""
    return {variable: unifier[variable][2] for variable in unifier}


def unified(term, unifier):
    """Return the term to which the unifier leads."""
    return instance_of(term, replaced_by(unifier))


def _is_clash(left, right):
    """Return whether both terms have applications at the same position that do not fit each other."""
    waiting = [(left, right)]
    while waiting:
        one, other = waiting.pop()
        if not isinstance(one, int) and not isinstance(other, int):
            if relation_of(one) != relation_of(other):
                return True
            waiting.extend(list(zip(one[1:], other[1:])))
    return False


def _around(inner):
    """Return the size and the depth of an application; those of its arguments are told first in each tuple."""
    return (1 + sum([part[0] for part in inner]), 1 + max([part[1] for part in inner], default=0))


def _numbers_of_parts(term, numbers):
    if isinstance(term, int):
        return ()
    return tuple(numbers[key_of(part)] for part in term[1:])


def _leader(leaders, place):
    while leaders[place] != place:
        place = leaders[place]
    return place


def _joined(terms, parts):
    """Join the terms that have to become equal, beginning with the sides of the equation at place 0.

    Return for each term the place of another one that it has to equal, or its own: these lead to
    a leader, which is an application wherever one has been joined. Return None if names clash.
    Each pair is joined once, however often it comes up; otherwise the time could double with each variable.
    """
    leaders = list(range(len(terms)))
    waiting = [parts[0]]
    while waiting:
        left, right = waiting.pop()
        left = _leader(leaders, left)
        right = _leader(leaders, right)
        if left == right:
            continue
        if isinstance(terms[left], int):
            leaders[left] = right
        elif isinstance(terms[right], int):
            leaders[right] = left
        elif relation_of(terms[left]) == relation_of(terms[right]):
            leaders[left] = right
            waiting.extend(list(zip(parts[left], parts[right])))
        else:
            return None
    return leaders


def _written(terms, parts, leaders):
    """Return for each leader its size, its depth and itself when all variables are replaced.

    Return None if some term would have to contain itself: then it waits for its own parts forever.
    """
    written = {}
    waiting = [place for place in range(len(terms) - 1, -1, -1) if leaders[place] == place]
    while waiting:
        for place in waiting:
            inner = [_leader(leaders, part) for part in parts[place]]
            if all(part in written for part in inner):
                written[place] = _whole(terms[place], [written[part] for part in inner])
        kept = [place for place in waiting if place not in written]
        if len(kept) == len(waiting):
            return None
        waiting = kept
    return written


def _whole(term, inner):
    """Return the size, the depth and the term itself, made of its arguments of which the same is told."""
    if isinstance(term, int):
        return (1, 1, term)
    return _around(inner) + (term[:1] + tuple(part[2] for part in inner),)
