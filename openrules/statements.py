"""Statements: valid ones, how they are made and changed, and counterexamples."""

from openrules.choices import choice_count, choices_of
from openrules.errors import TooLarge
from openrules.rules import numbered_rule
from openrules.terms import instance_of, key_of, substitute, variables_of
from openrules.unifiers import are_small, unified, unifier_of
from openrules.validity import is_equation, is_valid_atom

MOST_PREMISES = 4
MOST_DISJUNCTS = 4
MOST_ATOMS = 4
MOST_UNIVERSALS = 12
MOST_EXISTENTIALS = 4
MOST_CHOICES = 1000


def existentials_of(universals, disjunct):
    """Return the existential variables of the disjunct of a statement with so many universal ones."""
    return tuple(variable for variable in variables_of(disjunct) if variable >= universals)


def is_without_choice(statement):
    """Return whether the statement has exactly one disjunct, without existential variables."""
    universals, _, disjuncts = statement
    return len(disjuncts) == 1 and not existentials_of(universals, disjuncts[0])


def atoms_of_statement(premises, disjuncts):
    """Return the list of all atoms, in order."""
    return list(premises) + [atom for disjunct in disjuncts for atom in disjunct]


def is_valid_statement(statement):
    """Return whether the statement is valid; any triples of the form of a statement may be passed."""
    universals, premises, disjuncts = statement
    if len(premises) > MOST_PREMISES or len(disjuncts) > MOST_DISJUNCTS or universals > MOST_UNIVERSALS:
        return False
    if not all(1 <= len(disjunct) <= MOST_ATOMS for disjunct in disjuncts):
        return False
    if not all(is_valid_atom(atom) for atom in atoms_of_statement(premises, disjuncts)):
        return False
    existentials = [existentials_of(universals, disjunct) for disjunct in disjuncts]
    if not all(len(variables) <= MOST_EXISTENTIALS for variables in existentials):
        return False
    return _renumbered(universals, premises, disjuncts) == statement


def numbered_statement(premises, disjuncts):
    """Return the statement that is made out of the premises and the pairs (existentials, atoms)."""
    table = _universal_numbers(premises, disjuncts)
    return (
        len(table),
        tuple(instance_of(premise, table) for premise in premises),
        tuple(_numbered_disjunct(table, existentials, atoms) for existentials, atoms in disjuncts),
    )


def _universal_numbers(premises, disjuncts):
    variables = list(variables_of(premises))
    for existentials, atoms in disjuncts:
        variables.extend([variable for variable in variables_of(atoms) if variable not in existentials])
    table = {}
    for variable in variables:
        table.setdefault(variable, len(table))
    return table


def _numbered_disjunct(table, existentials, atoms):
    """Return the atoms numbered; a variable that is universal elsewhere may be existential here."""
    own = [variable for variable in variables_of(atoms) if variable in existentials]
    numbers = dict(table)
    for place, variable in enumerate(own):
        numbers[variable] = len(table) + place
    return tuple(instance_of(atom, numbers) for atom in atoms)


def _renumbered(universals, premises, disjuncts):
    """Return the statement with these parts numbered again."""
    pairs = tuple((existentials_of(universals, disjunct), disjunct) for disjunct in disjuncts)
    return numbered_statement(premises, pairs)


def statement_of_rule(rule):
    """Return the statement that the rule is."""
    _, premises, conclusion = rule
    return numbered_statement(premises, (((), (conclusion,)),))


def rule_of_statement(name, statement):
    """Return the rule with this name that the statement is, or None if it is no rule."""
    universals, premises, disjuncts = statement
    if len(disjuncts) != 1 or len(disjuncts[0]) != 1:
        return None
    conclusion = disjuncts[0][0]
    if is_equation(conclusion) or existentials_of(universals, disjuncts[0]):
        return None
    return numbered_rule((name, premises, conclusion))


def without_equation(statement, number):
    """Return the statement without this premise, an equation, or None if its sides cannot be unified.

    Raises TooLarge if the result is not valid.
    """
    universals, premises, disjuncts = statement
    _, left, right = premises[number]
    unifier = unifier_of(left, right)
    if unifier is None:
        return None
    others = premises[:number] + premises[number + 1:]
    if not are_small(atoms_of_statement(others, disjuncts), unifier):
        raise TooLarge()
    kept = tuple(_all_unified(disjunct, unifier) for disjunct in disjuncts)
    return _renumbered(universals, _all_unified(others, unifier), kept)


def _all_unified(atoms, unifier):
    return tuple(unified(atom, unifier) for atom in atoms)


def counterexample(statement, facts, terms):
    """Return the first tuple of terms that makes the premises facts, but no disjunct; None if there is none.

    Raises TooLarge if there are more than 1000 choices of terms for the variables.
    """
    universals, premises, disjuncts = statement
    counts = [len(existentials_of(universals, disjunct)) for disjunct in disjuncts]
    if choice_count(len(terms), universals + max(counts, default=0)) > MOST_CHOICES:
        raise TooLarge()
    known = {key_of(fact): True for fact in facts}
    rests = [choices_of(terms, count) for count in counts]
    for chosen in choices_of(terms, universals):
        if _all_known(premises, chosen, known) and not _some_known(disjuncts, rests, chosen, known):
            return chosen
    return None


def _all_known(atoms, chosen, known):
    """Return whether all atoms are facts, with the chosen terms for the variables in order."""
    pairs = tuple(enumerate(chosen))
    return all(key_of(substitute(atom, pairs)) in known for atom in atoms)


def _some_known(disjuncts, rests, chosen, known):
    """Return whether a disjunct is known, with one of the choices in its place of `rests` behind the chosen terms."""
    for disjunct, choices in zip(disjuncts, rests):
        if any(_all_known(disjunct, chosen + rest, known) for rest in choices):
            return True
    return False
