"""Choices of several things, where the same thing may be chosen several times."""


def choice_count(things, places):
    """Return the number of the choices of one of so many things for each of so many places."""
    count = 1
    for _ in range(places):
        count = count * things
    return count


def choices_of(things, places):
    """Return the list of the choices as tuples, in lexicographic order; things are ordered as they are given."""
    found = [()]
    for _ in range(places):
        found = [chosen + (thing,) for chosen in found for thing in things]
    return found
