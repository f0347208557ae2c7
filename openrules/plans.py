"""Plans: the proofs of a system as programs that work on terms and derivations, without goals and unification."""

from openrules.arguments import done_hypotheses, parts_with_goals
from openrules.entries import rules_applying
from openrules.goals import case_goal, initial_goal, replacements
from openrules.scopes import claim_in, rule_in


def plan_of(scope, entries):
    """Return the plan for the theorems of the scope; the entries are all proofs and cases that these need."""
    proofs = {(claim, rule): argument for claim, rule, argument in entries}
    plan = []
    for is_open, claims in scope[1]:
        for claim in claims:
            if is_open:
                program = _program_of_cases(scope, claim, proofs)
            else:
                program = _program(scope, claim[0], initial_goal(claim), proofs[claim[0], None])
            plan.append((claim[0], program))
    return tuple(sorted(plan, key=lambda row: row[0]))


def _program_of_cases(scope, claim, proofs):
    """Return the program of an open theorem, which chooses the case."""
    name, _, induction = claim
    cases = []
    for rule in rules_applying(scope[0], claim):
        goal = case_goal(claim, rule_in(scope, rule))
        sources = _sources(scope, initial_goal(claim), induction[0], rule)
        cases.append((rule, sources, _program(scope, name, goal, proofs[name, rule])))
    return ("switch", induction[0], tuple(cases))


def _program(scope, claim, goal, argument):
    """Return the program of the proof of the goal; `claim` is the name of the theorem."""
    step, parts = argument
    programs = [_program(scope, claim, left, part) for left, part in parts_with_goals(scope, goal, argument)]
    if step[0] == "done":
        return step + (tuple(done_hypotheses(claim_in(scope, claim), goal, step)),)
    if step[0] == "rule":
        return step + (programs[0],)
    if step[0] == "apply":
        return ("call",) + step[1:] + (tuple(programs),)
    labels = [label for label, _ in parts]
    cases = [(label, _sources(scope, goal, step[1], label), program) for label, program in zip(labels, programs)]
    return ("switch", step[1], tuple(cases))


def _sources(scope, goal, hypothesis, name):
    """Return the sources of the variables of the goal to which inverting by the rule with this name leads."""
    of_goal, of_rule = replacements(goal, hypothesis, rule_in(scope, name))
    found = {}
    for origin, terms in (("goal", of_goal), ("rule", of_rule)):
        for variable, term in enumerate(terms):
            for place, path in _places_of_variables(term):
                found.setdefault(place, (origin, variable, path))
    return tuple(found[variable] for variable in sorted(found))


def _places_of_variables(term):
    """Return the list of the pairs of a variable of the term and the path that leads to it, from left to right."""
    found = []
    waiting = [((), term)]
    while waiting:
        path, part = waiting.pop()
        if isinstance(part, int):
            found.append((part, path))
        else:
            inner = [(path + (place,), part[place]) for place in range(1, len(part))]
            waiting.extend(inner[::-1])
    return found
