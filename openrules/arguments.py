"""Proofs: their sizes, what they use, how they are trimmed, and how decisions become proofs."""

from openrules.deciding import check_decision
from openrules.decisions import needed_steps, terms_of_step
from openrules.errors import TooLarge, WrongDecision
from openrules.goals import atoms_of_goal, initial_goal
from openrules.kernel import check_argument, done_atoms, goals_after
from openrules.scopes import claim_in
from openrules.statements import is_without_choice
from openrules.terms import key_of, numbered

MOST_STEPS = 100
MOST_DEPTH = 30
MOST_DECISION_STEPS = 30


def step_count(argument):
    """Return the number of the steps."""
    return len(list(steps_of(argument)))


def argument_depth(argument):
    """Return 1 without parts, otherwise 1 more than the greatest depth of the parts."""
    return 1 + max([len(path) for path, _ in steps_of(argument)])


def is_within_limits(argument):
    """Return whether a module may have a proof of this size."""
    return step_count(argument) <= MOST_STEPS and argument_depth(argument) <= MOST_DEPTH


def steps_of(argument):
    """Yield the pair (path, step) for each step, a step before its parts and the parts in order."""
    waiting = [((), argument)]
    while waiting:
        path, (step, parts) = waiting.pop()
        yield (path, step)
        inner = [(path + (place,), part) for place, (_, part) in enumerate(parts)]
        waiting.extend(inner[::-1])


def inverted_atoms(scope, claim, goal, argument):
    """Return the atoms that the accepted proof inverts, each numbered alone and told once."""
    found = {}
    waiting = [(goal, argument)]
    while waiting:
        here, (step, parts) = waiting.pop()
        if step[0] == "invert":
            atom = numbered((atoms_of_goal(here)[step[1]],))[0]
            found.setdefault(key_of(atom), atom)
        inner = parts_with_goals(scope, here, (step, parts))
        waiting.extend(inner[::-1])
    return tuple(found.values())


def parts_with_goals(scope, goal, argument):
    """Return the list of the pairs of a goal that the first step leaves and its proof, which is accepted."""
    step, parts = argument
    return [(left, part) for (_, left), (_, part) in zip(goals_after(scope, goal, step), parts)]


def applied_claims(argument):
    """Return the names of the theorems that the proof applies, each once, in the order of the steps."""
    found = {step[1]: True for _, step in steps_of(argument) if step[0] == "apply"}
    return tuple(found)


def trimmed(scope, claim, goal, argument):
    """Return the accepted proof without the rule and apply steps that are of no use."""
    return _trimmed(scope, claim, goal, argument)[0]


def _trimmed(scope, claim, goal, argument):
    """Return the trimmed proof, and the list of the numbers of the hypotheses of this goal that its steps use."""
    step, parts = argument
    pairs = parts_with_goals(scope, goal, argument)
    inner = [_trimmed(scope, claim, left, part) for left, part in pairs]
    count = len(goal[1])
    used = {number: True for _, numbers in inner for number in numbers}
    if _is_removable(scope, step) and all(number < count for number in used):
        added = len(pairs[0][0][1]) - count
        return (_lowered(inner[0][0], count, added), list(used))
    for number in _used_by_step(claim_in(scope, claim), goal, step):
        used[number] = True
    kept = [(label, part) for (label, _), (part, _) in zip(parts, inner)]
    return ((step, tuple(kept)), [number for number in used if number < count])


def _is_removable(scope, step):
    """Return whether the step is one that leaves its goal as it is, but for further hypotheses."""
    if step[0] == "apply":
        return is_without_choice(claim_in(scope, step[1])[1])
    return step[0] == "rule"


def _used_by_step(claim, goal, step):
    """Return the numbers of the hypotheses that the step uses; `claim` is the theorem that is proved."""
    if step[0] == "done":
        return done_hypotheses(claim, goal, step)
    if step[0] == "invert":
        return [step[1]]
    return list(step[3])


def done_hypotheses(claim, goal, step):
    """Return the list of the numbers of the first hypotheses with the atoms that a done step needs."""
    known = atoms_of_goal(goal)
    return [known.index(atom) for atom in done_atoms(claim, goal, step)]


def _lowered(argument, first, by):
    """Return the proof with all numbers of hypotheses from `first` on decreased."""
    step, parts = argument
    return (_lowered_step(step, first, by), tuple((label, _lowered(part, first, by)) for label, part in parts))


def _lowered_step(step, first, by):
    if step[0] == "invert":
        return ("invert", _lowered_number(step[1], first, by))
    if step[0] == "done":
        return step
    return step[:3] + (tuple(_lowered_number(number, first, by) for number in step[3]),)


def _lowered_number(number, first, by):
    if number < first:
        return number
    return number - by


def argument_of(rules, statement, decision):
    """Return the proof that the decision becomes, for the initial goal of a theorem with this statement.

    Raises HasExistentials, WrongDecision or TooLarge, in this order.
    """
    right = check_decision(rules, statement, decision)
    follows, disjunct, steps, _ = decision
    if not right or not follows:
        raise WrongDecision()
    made = _rule_steps(rules, statement, steps, disjunct)
    if len(made) + 1 > MOST_DECISION_STEPS:
        raise TooLarge()
    argument = (("done", disjunct, ()), ())
    for step in made[::-1]:
        argument = (step, (("", argument),))
    claim = ("decided", statement, ())
    if check_argument((rules, ((False, (claim,)),)), "decided", initial_goal(claim), argument) is not None:
        raise TooLarge()
    return argument


def _rule_steps(rules, statement, steps, disjunct):
    """Return the list of the rule steps that the needed steps of a decision become."""
    _, premises, disjuncts = statement
    places = {}
    made = []
    for number in needed_steps(steps, disjuncts[disjunct]):
        atom, name, numbers = steps[number]
        if name is None:
            places[number] = premises.index(atom)
        else:
            places[number] = len(premises) + len(made)
            terms = terms_of_step(rules, steps, number)
            made.append(("rule", name, terms, tuple(places[earlier] for earlier in numbers)))
    return made
