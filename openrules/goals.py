"""Goals: what is to be proved in the middle of a proof, and how inversion and theorems change it.

Whatever a unifier does to a goal is measured before it is written out; see unifiers.
"""

from openrules.errors import TooLarge
from openrules.rules import by_name, variables_of_rule
from openrules.statements import existentials_of
from openrules.terms import instance_of, numbered, shifted, variables_of
from openrules.unifiers import measured, unified, unifier_of
from openrules.validity import is_small

MOST_HYPOTHESES = 30
MOST_SIZE = 400


def terms_of_goal(goal):
    """Return the values and then the atoms of the hypotheses, the order in which variables are numbered."""
    return goal[0] + atoms_of_goal(goal)


def atoms_of_goal(goal):
    """Return the atoms of the hypotheses."""
    return tuple(atom for atom, _ in goal[1])


def numbered_goal(goal):
    """Return the goal with the variables of its values and then of its hypotheses numbered."""
    values, hypotheses = goal
    count = len(values)
    terms = numbered(terms_of_goal(goal))
    bounds = [bound for _, bound in hypotheses]
    return (terms[:count], tuple(zip(terms[count:], bounds)))


def in_limits(goal):
    """Return whether the goal is within the limits."""
    return _fits(goal, {})


def _fits(goal, unifier):
    """Return whether the goal is within the limits after the unifier is applied."""
    if len(goal[1]) > MOST_HYPOTHESES:
        return False
    measures = [measured(term, unifier) for term in terms_of_goal(goal)]
    if not all(is_small(size, depth) for size, depth in measures):
        return False
    return sum([size for size, _ in measures]) <= MOST_SIZE


def _after(goal, unifier):
    """Return the goal to which the unifier leads, numbered. Raises TooLarge if it is not within the limits."""
    if not _fits(goal, unifier):
        raise TooLarge()
    values, hypotheses = goal
    changed = tuple((unified(atom, unifier), bound) for atom, bound in hypotheses)
    return numbered_goal((tuple(unified(value, unifier) for value in values), changed))


def _first_new_variable(goal):
    return 1 + max(variables_of(terms_of_goal(goal)), default=-1)


def initial_goal(claim):
    """Return the goal with which the proof of the theorem begins."""
    _, (universals, premises, _), induction = claim
    bounds = {number: (position, False) for position, number in enumerate(induction)}
    hypotheses = [(premise, bounds.get(number)) for number, premise in enumerate(premises)]
    return (tuple(range(universals)), tuple(hypotheses))


def _unifier_for(goal, hypothesis, rule):
    """Return a unifier of the hypothesis and the conclusion of the rule, whose variables are new ones, or None."""
    return unifier_of(goal[1][hypothesis][0], shifted(rule[2], _first_new_variable(goal)))


def _with_premises(goal, hypothesis, rule):
    """Return the goal with the premises of the rule, whose variables are new ones, as further hypotheses."""
    values, hypotheses = goal
    _, bound = hypotheses[hypothesis]
    lower = None
    if bound is not None:
        lower = (bound[0], True)
    new = _first_new_variable(goal)
    return (values, hypotheses + tuple((shifted(premise, new), lower) for premise in rule[1]))


def inversion(goal, hypothesis, rule):
    """Return the goal to which inverting the hypothesis by the rule leads, or None.

    Raises TooLarge if this goal is not within the limits.
    """
    unifier = _unifier_for(goal, hypothesis, rule)
    if unifier is None:
        return None
    return _after(_with_premises(goal, hypothesis, rule), unifier)


def replacements(goal, hypothesis, rule):
    """Return what replaces the variables of the goal, and those of the rule, when the hypothesis is inverted.

    These are two tuples, in ascending order of the variables that are replaced. Inverting leads to a goal
    within the limits; the variables of the replacements are those of this goal.
    """
    unifier = _unifier_for(goal, hypothesis, rule)
    terms = [unified(term, unifier) for term in terms_of_goal(_with_premises(goal, hypothesis, rule))]
    table = {variable: number for number, variable in enumerate(variables_of(terms))}
    new = _first_new_variable(goal)
    count = new + len(variables_of_rule(rule))
    replaced = [instance_of(unified(variable, unifier), table) for variable in range(count)]
    return (tuple(replaced[:new]), tuple(replaced[new:]))


def inversions(rules, goal, hypothesis):
    """Return the pairs (name, goal) for the rules and refl, by name, by which inverting leads to a goal.

    Raises TooLarge if one of these goals is not within the limits.
    """
    found = [(rule[0], inversion(goal, hypothesis, rule)) for rule in by_name(rules)]
    return tuple((name, left) for name, left in found if left is not None)


def case_goal(claim, rule):
    """Return the goal of the theorem's case for the rule, or None if the rule does not apply to the theorem.

    Raises TooLarge if this goal is not within the limits.
    """
    return inversion(initial_goal(claim), claim[2][0], rule)


def with_hypotheses(goal, atoms):
    """Return the goal with these atoms as further hypotheses without bounds.

    Raises TooLarge if this goal is not within the limits.
    """
    values, hypotheses = goal
    return _after((values, hypotheses + tuple((atom, None) for atom in atoms)), {})


def with_disjunct(goal, statement, disjunct, terms):
    """Return the goal with a disjunct of the statement added, where its universal variables stand for the terms.

    Raises TooLarge if this goal is not within the limits.
    """
    universals, _, disjuncts = statement
    atoms = disjuncts[disjunct]
    table = dict(enumerate(terms))
    new = _first_new_variable(goal)
    for place, variable in enumerate(existentials_of(universals, atoms)):
        table[variable] = new + place
    return with_hypotheses(goal, tuple(instance_of(atom, table) for atom in atoms))
