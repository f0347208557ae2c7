"""The steps of a decision: which rule instances they are, and which of them are needed for some atoms."""

from openrules.rules import rule_named
from openrules.unification import matching


def terms_of_step(rules, steps, number):
    """Return the terms with which the rule of this step leads to its atom from those of its premises, or None.

    There are none if the rule is unknown, or if a premise is no earlier step.
    """
    atom, name, numbers = steps[number]
    rule = rule_named(rules, name)
    if rule is None or not all(earlier < number for earlier in numbers):
        return None
    _, premises, conclusion = rule
    derived = ("rule", atom) + tuple(steps[earlier][0] for earlier in numbers)
    pairs = matching(("rule", conclusion) + premises, derived)
    if pairs is None:
        return None
    return tuple(term for _, term in pairs)


def needed_steps(steps, atoms):
    """Return in ascending order the numbers of the first steps with these atoms, and of all that they rest on."""
    reached = [step[0] for step in steps]
    needed = {reached.index(atom): True for atom in atoms}
    for number in range(len(steps) - 1, -1, -1):
        if number in needed:
            for earlier in steps[number][2]:
                needed[earlier] = True
    return sorted(needed)
