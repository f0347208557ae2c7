"""The search of the tactics: states of atoms that remain are examined until one has none left.

Variables of the goal are written as names during a search, so that all variables are search variables.
"""

from openrules.goals import atoms_of_goal
from openrules.rules import by_name, variables_of_rule
from openrules.terms import instance_of, shifted, variables_of
from openrules.unifiers import are_small, replaced_by, unifier_of

ANY = ("any",)


def frozen(term):
    """Return the term with a name in the place of each variable: its digits, which are no name of another kind."""
    return instance_of(term, {variable: (str(variable),) for variable in variables_of((term,))})


def frozen_atoms(goal):
    """Return the atoms of the hypotheses, frozen."""
    return tuple(frozen(atom) for atom in atoms_of_goal(goal))


def thawed(term):
    """Return the term with the variables of the goal in their places again, and without search variables."""
    if isinstance(term, int):
        return ANY
    if term[0].isdigit():
        return int(term[0])
    return term[:1] + tuple(thawed(part) for part in term[1:])


class State:
    """A state of a search, to which the first state with the number `origin` has led.

    The atoms that remain are triples (atom, number, hypotheses): how many rules may be used one above another,
    and which hypotheses may be tried. `terms` are those that are being determined; the search variables are
    less than `fresh`. The rules that were used are triples (name, terms, conclusion), and `hypotheses` are the
    numbers of those that were used.
    """

    def __init__(self, origin, remaining, terms, fresh, used=(), hypotheses=()):
        self.origin = origin
        self.remaining = remaining
        self.terms = terms
        self.fresh = fresh
        self.used = used
        self.hypotheses = hypotheses


def searched(known, rules, states, work, accepts):
    """Return the first state without remaining atoms that is accepted, or None if no state is left.

    `known` are the atoms of the hypotheses; these and the first states are frozen.
    """
    ordered = by_name(rules)
    waiting = [(state, None) for state in states[::-1]]
    while waiting:
        before, way = waiting.pop()
        state = _after(before, way, known)
        if state is not None:
            work.use()
            if state.remaining:
                waiting.extend([(state, next_way) for next_way in _ways(state, ordered)[::-1]])
            elif accepts(state):
                return state
    return None


def _ways(state, rules):
    """Return the list of the pairs (hypothesis, None) and (None, rule) that are to be tried for the first atom."""
    _, number, hypotheses = state.remaining[0]
    ways = [(hypothesis, None) for hypothesis in hypotheses]
    if number > 0:
        ways.extend([(None, rule) for rule in rules])
    return ways


def _after(state, way, known):
    """Return the state to which this way leads, or the state itself without one; None if there is none to examine."""
    if way is None:
        return _small(state, {})
    hypothesis, rule = way
    if rule is None:
        return _by_hypothesis(state, hypothesis, known[hypothesis])
    return _by_rule(state, rule)


def _by_hypothesis(state, hypothesis, atom):
    unifier = unifier_of(state.remaining[0][0], atom)
    if unifier is None:
        return None
    chosen = state.hypotheses + (hypothesis,)
    return _small(State(state.origin, state.remaining[1:], state.terms, state.fresh, state.used, chosen), unifier)


def _by_rule(state, rule):
    atom, number, hypotheses = state.remaining[0]
    name, premises, conclusion = rule
    conclusion = shifted(conclusion, state.fresh)
    unifier = unifier_of(atom, conclusion)
    if unifier is None:
        return None
    fresh = state.fresh + len(variables_of_rule(rule))
    added = tuple((shifted(premise, state.fresh), number - 1, hypotheses) for premise in premises)
    used = state.used + ((name, tuple(range(state.fresh, fresh)), conclusion),)
    remaining = added + state.remaining[1:]
    return _small(State(state.origin, remaining, state.terms, fresh, used, state.hypotheses), unifier)


def _small(state, unifier):
    """Return the state to which the unifier leads, or None if it has to be dropped."""
    atoms = [atom for atom, _, _ in state.remaining] + [conclusion for _, _, conclusion in state.used]
    if not are_small(atoms, unifier):
        return None
    # All other terms are given ones, or parts of these atoms or of hypotheses, so they are small as well.
    table = replaced_by(unifier)
    return State(
        state.origin,
        tuple((instance_of(atom, table), number, hypotheses) for atom, number, hypotheses in state.remaining),
        _instances(state.terms, table),
        state.fresh,
        tuple((name, _instances(terms, table), instance_of(atom, table)) for name, terms, atom in state.used),
        state.hypotheses,
    )


def _instances(terms, table):
    return tuple(instance_of(term, table) for term in terms)
