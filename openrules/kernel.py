"""The kernel: which steps of proofs are valid, which goals they leave, and which proofs are accepted."""

from openrules.claims import names_of_claims
from openrules.errors import TooLarge
from openrules.goals import atoms_of_goal, inversions, terms_of_goal, with_disjunct, with_hypotheses
from openrules.rules import variables_of_rule
from openrules.scopes import block_with, claim_in, rule_in
from openrules.statements import existentials_of
from openrules.terms import depth_of, instance_of, size_of, substitute, variables_of
from openrules.validity import is_small


def is_lower(bounds):
    """Return whether hypotheses with these bounds, in the order of the positions, are lower."""
    for position, bound in enumerate(bounds):
        if bound == (position, True):
            return True
        if bound != (position, False):
            return False
    return False


def is_admissible(goal, term):
    """Return whether the term may stand in a step that is applied to the goal."""
    known = variables_of(terms_of_goal(goal))
    if not all(variable in known for variable in variables_of((term,))):
        return False
    return is_small(size_of(term), depth_of(term))


def done_atoms(claim, goal, step):
    """Return the list of the atoms that a done step needs; `claim` is the theorem itself."""
    _, disjunct, terms = step
    table = dict(enumerate(goal[0] + terms))
    return [instance_of(atom, table) for atom in claim[1][2][disjunct]]


def outcome(scope, claim, goal, step):
    """Return the first fault of the step, or None, and the pairs (label, goal) of the goals that it leaves."""
    fault = _fault_of(scope, claim, goal, step)
    if fault is not None:
        return (fault, ())
    try:
        return (None, goals_after(scope, goal, step))
    except TooLarge:
        return ("limits", ())


def _fault_of(scope, claim, goal, step):
    """Return the first word of what is wrong with the step, apart from the goals that it leaves, or None."""
    kind = step[0]
    if kind == "done":
        return _fault_of_done(claim_in(scope, claim), goal, step)
    if kind == "rule":
        return _fault_of_rule(scope, goal, step)
    if kind == "apply":
        return _fault_of_apply(scope, claim, goal, step)
    if step[1] >= len(goal[1]):
        return "hypothesis"
    return None


def _fault_of_done(claim, goal, step):
    _, disjunct, terms = step
    universals, _, disjuncts = claim[1]
    if disjunct >= len(disjuncts):
        return "disjunct"
    if not _are_fitting(goal, terms, len(existentials_of(universals, disjuncts[disjunct]))):
        return "term"
    known = atoms_of_goal(goal)
    if not all(atom in known for atom in done_atoms(claim, goal, step)):
        return "hypothesis"
    return None


def _fault_of_rule(scope, goal, step):
    rule = rule_in(scope, step[1])
    if rule is None:
        return "rule"
    return _fault_of_use(goal, rule[1], len(variables_of_rule(rule)), step)


def _fault_of_apply(scope, claim, goal, step):
    applied = claim_in(scope, step[1])
    if applied is None:
        return "claim"
    universals, premises, _ = applied[1]
    fault = _fault_of_use(goal, premises, universals, step)
    if fault is None and not may_apply(scope, claim, goal, step):
        return "lower"
    return fault


def may_apply(scope, claim, goal, step):
    """Return whether the theorem of an apply step is not of the block that is proved, or the hypotheses are lower."""
    _, name, _, hypotheses = step
    if name not in names_of_claims(block_with(scope, claim)):
        return True
    return is_lower([goal[1][hypotheses[number]][1] for number in claim_in(scope, name)[2]])


def _fault_of_use(goal, premises, count, step):
    """Return the fault in the terms and the hypotheses with which a rule or a theorem is used, or None."""
    _, _, terms, hypotheses = step
    if not _are_fitting(goal, terms, count):
        return "term"
    if not _are_premises(goal, hypotheses, premises, terms):
        return "hypothesis"
    return None


def _are_fitting(goal, terms, count):
    return len(terms) == count and all(is_admissible(goal, term) for term in terms)


def _are_premises(goal, hypotheses, premises, terms):
    """Return whether the hypotheses with these numbers are the premises with these terms."""
    known = atoms_of_goal(goal)
    if not all(number < len(known) for number in hypotheses):
        return False
    pairs = tuple(enumerate(terms))
    return [known[number] for number in hypotheses] == [substitute(premise, pairs) for premise in premises]


def goals_after(scope, goal, step):
    """Return the pairs (label, goal) that a step without a fault leaves; raises TooLarge if one is too large."""
    kind = step[0]
    if kind == "rule":
        conclusion = substitute(rule_in(scope, step[1])[2], tuple(enumerate(step[2])))
        return (("", with_hypotheses(goal, (conclusion,))),)
    if kind == "apply":
        statement = claim_in(scope, step[1])[1]
        return tuple([("", with_disjunct(goal, statement, place, step[2])) for place in range(len(statement[2]))])
    if kind == "invert":
        return inversions(scope[0], goal, step[1])
    return ()


def after_step(scope, claim, goal, step):
    """Return the pairs (label, goal) of the goals that the step leaves, or None if the step is not valid."""
    fault, goals = outcome(scope, claim, goal, step)
    if fault is not None:
        return None
    return goals


def check_argument(scope, claim, goal, argument):
    """Return None if the proof is accepted for the goal, otherwise its first fault (path, kind)."""
    step, parts = argument
    fault, goals = outcome(scope, claim, goal, step)
    if fault is None:
        fault = _fault_of_parts(goals, parts)
    if fault is not None:
        return ((), fault)
    for place, (_, part) in enumerate(parts):
        inner = check_argument(scope, claim, goals[place][1], part)
        if inner is not None:
            return ((place,) + inner[0], inner[1])
    return None


def _fault_of_parts(goals, parts):
    if len(parts) != len(goals):
        return "parts"
    if [label for label, _ in parts] != [label for label, _ in goals]:
        return "label"
    return None
