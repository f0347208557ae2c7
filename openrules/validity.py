"""What names, atoms and their sizes have to be like."""

from openrules.terms import depth_of, occurrences_in

SMALL_LETTERS = "abcdefghijklmnopqrstuvwxyz"
NAME_SIGNS = "abcdefghijklmnopqrstuvwxyzABCDEFGHIJKLMNOPQRSTUVWXYZ0123456789"
MOST_SIGNS = 16
MOST_ARGUMENTS = 8
MOST_SIZE = 60
MOST_DEPTH = 12


def is_name(text):
    """Return whether the string is a name."""
    if not 1 <= len(text) <= MOST_SIGNS:
        return False
    return text[0] in SMALL_LETTERS and all(sign in NAME_SIGNS for sign in text)


def is_equation(atom):
    """Return whether the atom is an equation."""
    return atom[0] == "="


def is_small(size, depth):
    """Return whether a valid atom may have this size and this depth."""
    return size <= MOST_SIZE and depth <= MOST_DEPTH


def is_valid_atom(atom):
    """Return whether the atom is valid; any tuples of the form of an atom may be passed."""
    inner = occurrences_in(atom)
    applications = [part for part in inner if not isinstance(part, int)]
    names = [part[0] for part in applications]
    if is_equation(atom) and len(atom) == 3:
        names = names[1:]
    if not all(is_name(name) for name in names):
        return False
    if max([len(part) for part in applications]) > 1 + MOST_ARGUMENTS:
        return False
    return is_small(len(inner), depth_of(atom))
