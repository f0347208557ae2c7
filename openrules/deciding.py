"""Deciding whether a statement without existential variables follows from some rules.

The variables of the statement are treated like names here: atoms are matched, never unified.
"""

from openrules.choices import choice_count
from openrules.decisions import terms_of_step
from openrules.errors import HasExistentials, NotDetermined, TooLarge
from openrules.rules import by_name, is_determined, with_refl
from openrules.statements import existentials_of
from openrules.terms import depth_of, key_of, relation_of, size_of, substitute, subterms_of, variables_of
from openrules.unification import matching

MOST_EXAMINED = 100
MOST_SIZE = 500
MOST_DEPTH = 20


def examined_atoms(rules, statement):
    """Return the examined atoms in the order in which they are found.

    Raises HasExistentials, NotDetermined or TooLarge, in this order.
    """
    return tuple(atom for atom, _, _ in _examined(rules, statement))


def decide(rules, statement):
    """Return the decision (follows, disjunct, steps, refuted); raises as examined_atoms does."""
    examined = _examined(rules, statement)
    _, premises, disjuncts = statement
    steps, places = _steps(examined, premises)
    refuted = tuple(atom for atom, key, _ in examined if key not in places)
    for number, atoms in enumerate(disjuncts):
        if all(key_of(atom) in places for atom in atoms):
            return (True, number, steps, refuted)
    return (False, None, steps, refuted)


def check_decision(rules, statement, decision):
    """Return whether the decision is right. Raises HasExistentials if the statement has an existential variable."""
    _require_no_existentials(statement)
    follows, disjunct, steps, refuted = decision
    if follows:
        return _is_reached(statement, disjunct, steps) and _are_right(rules, statement, steps)
    return disjunct is None and _is_missed(statement, refuted) and _are_refuted(rules, refuted)


def analytic_bound(rules, statement):
    """Return the number of atoms of which no more are examined if all rules are analytic."""
    wanted = [atom for atoms in statement[2] for atom in atoms]
    premises = [premise for rule in rules for premise in rule[1]]
    arguments = [argument for atom in wanted for argument in atom[1:]]
    ground = [argument for premise in premises for argument in premise[1:] if not variables_of((argument,))]
    parts = {key_of(part): True for argument in arguments + ground for part in subterms_of(argument)}
    relations = {relation_of(atom): True for atom in wanted + premises}
    return sum([choice_count(len(parts), places) for _, places in relations])


def _require_no_existentials(statement):
    universals, _, disjuncts = statement
    if any(existentials_of(universals, atoms) for atoms in disjuncts):
        raise HasExistentials()


def _require_determined(rules, disjuncts):
    """Raise NotDetermined for the first rule by name that matters to the disjuncts and is not determined."""
    waiting = [relation_of(atom) for atoms in disjuncts for atom in atoms]
    found = {}
    while waiting:
        relation = waiting.pop()
        for name, premises, conclusion in rules:
            if name not in found and relation_of(conclusion) == relation:
                found[name] = True
                waiting.extend([relation_of(premise) for premise in premises])
    for rule in by_name(rules):
        if rule[0] in found and not is_determined(rule):
            raise NotDetermined(rule[0])


def _examined(rules, statement):
    """Return the list of the triples (atom, its key, ways) in the order in which the atoms are found.

    A way is the pair of the name of a rule that concludes the atom and the list of the keys of its premises.
    """
    _require_no_existentials(statement)
    _, given, disjuncts = statement
    _require_determined(rules, disjuncts)
    found = {}
    for atoms in disjuncts:
        _find(found, atoms)
    ordered = by_name(rules)
    examined = []
    while len(examined) < len(found):
        key = list(found)[len(examined)]
        atom = found[key]
        ways = []
        if atom not in given:
            for name, premises in _ways(ordered, atom):
                ways.append((name, _find(found, premises)))
        examined.append((atom, key, ways))
    return examined


def _find(found, atoms):
    """Add the atoms to those that have been found; return the list of their keys."""
    keys = []
    for atom in atoms:
        # An atom that is too large can have thousands of names; it is refused before it is written as a key.
        if size_of(atom) > MOST_SIZE or depth_of(atom) > MOST_DEPTH:
            raise TooLarge()
        key = key_of(atom)
        found[key] = atom
        keys.append(key)
    if len(found) > MOST_EXAMINED:
        raise TooLarge()
    return keys


def _ways(rules, atom):
    """Return the list of the names and the premises of the rules that conclude the atom, in the order of the rules."""
    ways = []
    for name, premises, conclusion in rules:
        pairs = matching(conclusion, atom)
        if pairs is not None:
            ways.append((name, [substitute(premise, pairs) for premise in premises]))
    return ways


def _steps(examined, given):
    """Return the tuple of the steps, and a dict with the number of its step for the key of each atom that has one."""
    steps = []
    places = {}
    _add_steps(steps, places, [(key, (atom, None, ())) for atom, key, _ in examined if atom in given])
    added = _round(examined, places)
    while added:
        _add_steps(steps, places, added)
        added = _round(examined, places)
    return tuple(steps), places


def _add_steps(steps, places, added):
    for key, step in added:
        places[key] = len(steps)
        steps.append(step)


def _round(examined, places):
    """Return the list of the keys and the steps of the atoms that can be derived now, and could not before."""
    added = []
    for atom, key, ways in examined:
        ready = [way for way in ways if all(premise in places for premise in way[1])]
        if ready and key not in places:
            name, premises = ready[0]
            added.append((key, (atom, name, tuple(places[premise] for premise in premises))))
    return added


def _is_reached(statement, disjunct, steps):
    """Return whether the disjunct is the number of one all of whose atoms are those of steps."""
    disjuncts = statement[2]
    if disjunct is None or disjunct >= len(disjuncts):
        return False
    reached = [step[0] for step in steps]
    return all(atom in reached for atom in disjuncts[disjunct])


def _are_right(rules, statement, steps):
    given = statement[1]
    for number, (atom, name, premises) in enumerate(steps):
        if name is None:
            right = atom in given and not premises
        else:
            right = terms_of_step(rules, steps, number) is not None
        if not right:
            return False
    return True


def _is_missed(statement, refuted):
    """Return whether each disjunct has a refuted atom, and no premise is one."""
    _, given, disjuncts = statement
    if any(atom in given for atom in refuted):
        return False
    return all(any(atom in refuted for atom in atoms) for atoms in disjuncts)


def _are_refuted(rules, refuted):
    """Return whether each rule that concludes a refuted atom needs another refuted atom for this."""
    for atom in refuted:
        for rule in with_refl(rules):
            pairs = matching(rule[2], atom)
            if pairs is not None and not _needs_refuted(rule, pairs, refuted):
                return False
    return True


def _needs_refuted(rule, pairs, refuted):
    """Return whether a premise that is known by the conclusion's terms is refuted."""
    known = variables_of((rule[2],))
    for premise in rule[1]:
        if all(variable in known for variable in variables_of((premise,))):
            if substitute(premise, pairs) in refuted:
                return True
    return False
