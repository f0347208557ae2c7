"""The tactic auto, which derives the atoms of a disjunct by rules from the hypotheses."""

from openrules.errors import TacticFailed, TooLarge
from openrules.goals import atoms_of_goal, with_hypotheses
from openrules.scopes import claim_in, rule_in
from openrules.searching import State, frozen, frozen_atoms, searched, thawed
from openrules.statements import existentials_of
from openrules.terms import instance_of, substitute


def steps_of_auto(scope, claim, goal, most, work):
    """Return the list of the steps of the proof that the tactic ("auto", most) makes; the last one is done.

    Raises TacticFailed if there is none.
    """
    states = _first_states(claim_in(scope, claim)[1], goal, most)
    last = searched(frozen_atoms(goal), scope[0], states, work, lambda state: True)
    if last is None:
        raise TacticFailed("search")
    try:
        steps = _rule_steps(scope, goal, last.used)
    except TooLarge:
        raise TacticFailed("limits")
    return steps + [("done", last.origin, _thawed_terms(last.terms))]


def _first_states(statement, goal, most):
    """Return the list of the states with which the search begins, one for each disjunct."""
    universals, _, disjuncts = statement
    values = dict(enumerate([frozen(value) for value in goal[0]]))
    every = tuple(range(len(goal[1])))
    states = []
    for place, atoms in enumerate(disjuncts):
        searching = tuple(existentials_of(universals, atoms))
        remaining = tuple((instance_of(atom, values), most, every) for atom in atoms)
        states.append(State(place, remaining, searching, universals + len(searching)))
    return states


def _rule_steps(scope, goal, used):
    """Return the list of the steps with the rules that were used, the last one first.

    Raises TooLarge if a goal that one of them leaves is not within the limits.
    """
    steps = []
    for name, terms, conclusion in used[::-1]:
        known = atoms_of_goal(goal)
        atom = thawed(conclusion)
        if atom not in known:
            chosen = _thawed_terms(terms)
            pairs = tuple(enumerate(chosen))
            numbers = [known.index(substitute(premise, pairs)) for premise in rule_in(scope, name)[1]]
            steps.append(("rule", name, chosen, tuple(numbers)))
            goal = with_hypotheses(goal, (atom,))
    return steps


def _thawed_terms(terms):
    return tuple(thawed(term) for term in terms)
