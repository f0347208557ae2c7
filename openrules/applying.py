"""The tactic apply, which looks for the hypotheses and terms with which a rule or a theorem can be used."""

from openrules.errors import TacticFailed
from openrules.goals import atoms_of_goal
from openrules.kernel import is_admissible, may_apply
from openrules.rules import variables_of_rule
from openrules.scopes import claim_in, rule_in
from openrules.searching import State, frozen, frozen_atoms, searched, thawed
from openrules.statements import is_without_choice
from openrules.terms import instance_of, substitute, variables_of


def step_of_apply(scope, claim, goal, tactic, work):
    """Return the step with the first useful choice for the tactic ("apply", name, hypotheses, terms).

    Raises TacticFailed if there is none. The goals that the step leaves need not be within the limits.
    """
    _, name, hypotheses, terms = tactic
    kind, count, premises = _used(scope, name)
    _check_terms(goal, count, premises, terms)
    _check_hypotheses(goal, premises, hypotheses)

    def accepts(state):
        return _is_useful(scope, claim, goal, _step(kind, name, state))

    first = _first_state(goal, count, premises, hypotheses, terms)
    last = searched(frozen_atoms(goal), (), (first,), work, accepts)
    if last is None:
        raise TacticFailed("choice")
    return _step(kind, name, last)


def _used(scope, name):
    """Return the kind of the step, the number of own variables and the premises of what has this name."""
    rule = rule_in(scope, name)
    if rule is not None:
        return ("rule", len(variables_of_rule(rule)), rule[1])
    applied = claim_in(scope, name)
    if applied is None:
        raise TacticFailed("name")
    universals, premises, _ = applied[1]
    return ("apply", universals, premises)


def _check_terms(goal, count, premises, terms):
    """Raise TacticFailed if a given term is wrong, or if one that no premise determines is not given."""
    for variable, term in terms:
        if variable >= count:
            raise TacticFailed("variable")
        if not is_admissible(goal, term):
            raise TacticFailed("term")
    known = variables_of(premises) + tuple(variable for variable, _ in terms)
    if not all(variable in known for variable in list(range(count))):
        raise TacticFailed("determined")


def _check_hypotheses(goal, premises, hypotheses):
    """Raise TacticFailed if hypotheses are given, but not one of the goal for each premise."""
    if hypotheses is not None:
        if len(hypotheses) != len(premises):
            raise TacticFailed("premises")
        if not all(number < len(goal[1]) for number in hypotheses):
            raise TacticFailed("hypothesis")


def _first_state(goal, count, premises, hypotheses, terms):
    given = {variable: frozen(term) for variable, term in terms}
    every = tuple(range(len(goal[1])))
    remaining = []
    for place, premise in enumerate(premises):
        tried = every
        if hypotheses is not None:
            tried = (hypotheses[place],)
        remaining.append((instance_of(premise, given), 0, tried))
    own = [given.get(variable, variable) for variable in range(count)]
    return State(0, tuple(remaining), tuple(own), count)


def _step(kind, name, state):
    return (kind, name, tuple(thawed(term) for term in state.terms), state.hypotheses)


def _is_useful(scope, claim, goal, step):
    """Return whether the step brings something new, and may be made."""
    kind, name, terms, _ = step
    known = atoms_of_goal(goal)
    pairs = tuple(enumerate(terms))
    if kind == "rule":
        return substitute(rule_in(scope, name)[2], pairs) not in known
    statement = claim_in(scope, name)[1]
    if is_without_choice(statement) and all(substitute(atom, pairs) in known for atom in statement[2][0]):
        return False
    return may_apply(scope, claim, goal, step)
