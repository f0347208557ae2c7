"""Slow versions of carrying out [221] to [223] and of tactics [240] to [245], word for word as they are told.

In the searches here, an integer is a variable of the goal, which is like a name, and a string is a search variable.
"""

from openrules.claims import names_of_claims
from openrules.derivations import fact_of, height_of, rules_in
from openrules.goals import atoms_of_goal, case_goal, initial_goal
from openrules.kernel import outcome
from openrules.rules import by_name, rule_named, variables_of_rule
from openrules.scopes import block_with, claim_in, rule_in
from openrules.statements import existentials_of
from openrules.terms import depth_of, size_of, substitute, variables_of
from openrules.unification import matching


class Large(Exception):
    """Carrying out would go beyond a bound."""


class Failed(Exception):
    """A tactic failed, for the reason that is its only argument."""


class Carrier:
    """Carries out the theorems of a scope, by goals and by matching them with facts."""

    def __init__(self, scope, entries):
        self.scope = scope
        self.proofs = {(claim, rule): argument for claim, rule, argument in entries}
        self.steps = 0

    def count(self):
        self.steps += 1
        if self.steps > 400:
            raise Large()

    def carry_out(self, name, terms, derivations, others=0):
        if others >= 40:
            raise Large()
        claim = claim_in(self.scope, name)
        goal, rule = initial_goal(claim), None
        if block_with(self.scope, name)[0]:
            self.count()
            rule, _, inner = derivations[claim[2][0]]
            goal = case_goal(claim, rule_in(self.scope, rule))
            derivations += inner
        argument = self.proofs[name, rule]
        while True:
            self.count()
            (step, parts), given = argument, self.meanings(goal, terms, derivations)
            _, goals = outcome(self.scope, name, goal, step)
            if step[0] == "done":
                return self.result(claim, goal, step, given, derivations)
            if step[0] == "invert":
                made = derivations[step[1]]
                place = [label for label, _ in parts].index(made[0])
                derivations += made[2]
            else:
                chosen = tuple(derivations[number] for number in step[3])
                made = (step[1], self.taken(step[2], given), chosen)
                place = 0
                if step[0] == "rule":
                    if rules_in(made) > 2000 or height_of(made) > 60:
                        raise Large()
                    derivations += (made,)
                else:
                    place, _, found = self.carry_out(*made, others + 1)
                    derivations += found
            goal, argument = goals[place][1], parts[place][1]

    def meanings(self, goal, terms, derivations):
        """The ground terms for the variables of the goal."""
        facts = tuple(fact_of(self.scope[0], derivation) for derivation in derivations)
        return matching(("all",) + goal[0] + atoms_of_goal(goal), ("all",) + terms + facts)

    def taken(self, terms, given):
        found = tuple(substitute(term, given) for term in terms)
        if any(size_of(term) > 200 or depth_of(term) > 40 for term in found):
            raise Large()
        return found

    def result(self, claim, goal, step, given, derivations):
        _, disjunct, terms = step
        known = atoms_of_goal(goal)
        atoms = [substitute(atom, tuple(enumerate(goal[0] + terms))) for atom in claim[1][2][disjunct]]
        return (disjunct, self.taken(terms, given), tuple(derivations[known.index(atom)] for atom in atoms))


def bound(term, bindings):
    """The term with all search variables replaced that are bound."""
    if isinstance(term, str):
        return bound(bindings[term], bindings) if term in bindings else term
    if isinstance(term, int):
        return term
    return term[:1] + tuple(bound(part, bindings) for part in term[1:])


def occurs(variable, term):
    return term == variable or isinstance(term, tuple) and any(occurs(variable, part) for part in term[1:])


def joined(left, right, bindings):
    """The bindings that make the terms equal, too, or None."""
    left, right = bound(left, bindings), bound(right, bindings)
    if left == right:
        return bindings
    if isinstance(left, str):
        return None if occurs(left, right) else {**bindings, left: right}
    if isinstance(right, str):
        return joined(right, left, bindings)
    if isinstance(left, int) or isinstance(right, int) or left[0] != right[0] or len(left) != len(right):
        return None
    for one, other in zip(left[1:], right[1:]):
        bindings = joined(one, other, bindings)
        if bindings is None:
            return None
    return bindings


def measures(term):
    """The size and the depth of a term with search variables."""
    if isinstance(term, (int, str)):
        return (1, 1)
    inner = [measures(part) for part in term[1:]]
    return (1 + sum(size for size, _ in inner), 1 + max((depth for _, depth in inner), default=0))


def renamed(term, table):
    """The term with other things in the places of its variables."""
    return table[term] if isinstance(term, int) else term[:1] + tuple(renamed(part, table) for part in term[1:])


class Slow:
    """Runs tactics for the proof of a theorem."""

    def __init__(self, scope, claim, units=300):
        self.scope, self.claim, self.units = scope, claim, units
        self.fresh = 0

    def unit(self):
        if self.units == 0:
            raise Failed("work")
        self.units -= 1

    def run(self, goal, tactic):
        self.unit()
        kind = tactic[0]
        if kind == "step":
            return self.step(goal, tactic[1])
        if kind == "apply":
            return self.apply(goal, *tactic[1:])
        if kind == "auto":
            return self.auto(goal, tactic[1])
        if kind == "then":
            if not tactic[1]:
                return None, [goal]
            return self.each(self.run(goal, tactic[1][0]), lambda left: self.run(left, ("then", tactic[1][1:])))
        if kind == "else":
            if not tactic[1]:
                raise Failed("none")
            try:
                return self.run(goal, tactic[1][0])
            except Failed as failure:
                if failure.args == ("work",) or len(tactic[1]) == 1:
                    raise
            return self.run(goal, ("else", tactic[1][1:]))
        return self.repeat(goal, tactic[1], 0)

    def repeat(self, goal, tactic, runs):
        if runs == 10:
            return None, [goal]
        try:
            made = self.run(goal, tactic)
        except Failed as failure:
            if failure.args == ("work",):
                raise
            return None, [goal]
        return self.each(made, lambda left: self.repeat(left, tactic, runs + 1))

    def each(self, made, function):
        argument, goals = made
        results = [function(goal) for goal in goals]
        whole, rest = fill(argument, [inner for inner, _ in results])
        assert not rest
        return whole, [left for _, inner in results for left in inner]

    def step(self, goal, step):
        fault, goals = outcome(self.scope, self.claim, goal, step)
        if fault:
            raise Failed(fault)
        return (step, tuple((label, None) for label, _ in goals)), [left for _, left in goals]

    def apply(self, goal, name, hypotheses, terms):
        rule, claim = rule_named(self.scope[0], name), claim_in(self.scope, name)
        if rule is None and claim is None:
            raise Failed("name")
        if rule is not None:
            kind, count, premises = "rule", len(variables_of_rule(rule)), rule[1]
        else:
            kind, count, premises = "apply", claim[1][0], claim[1][1]
        known = variables_of(goal[0] + atoms_of_goal(goal))
        for variable, term in terms:
            if variable not in range(count):
                raise Failed("variable")
            if not set(variables_of((term,))) <= set(known) or size_of(term) > 60 or depth_of(term) > 12:
                raise Failed("term")
        if set(range(count)) - set(variables_of(premises)) - {variable for variable, _ in terms}:
            raise Failed("determined")
        if hypotheses is not None and len(hypotheses) != len(premises):
            raise Failed("premises")
        if hypotheses is not None and any(number >= len(goal[1]) for number in hypotheses):
            raise Failed("hypothesis")
        own = self.new(count)
        bindings = {own[variable]: term for variable, term in terms}
        states = [(0, [(renamed(premise, own), 0, place) for place, premise in enumerate(premises)], bindings, [], [])]
        tried = None if hypotheses is None else [[number] for number in hypotheses]

        def step_of(state):
            return (kind, name, tuple(bound(own[number], state[2]) for number in range(count)), tuple(state[4]))

        found = self.search(goal, states, tried, lambda state: self.is_useful(goal, step_of(state)))
        if found is None:
            raise Failed("choice")
        return self.step(goal, step_of(found))

    def is_useful(self, goal, step):
        kind, name, terms, hypotheses = step
        known, pairs = atoms_of_goal(goal), tuple(enumerate(terms))
        if kind == "rule":
            return substitute(rule_named(self.scope[0], name)[2], pairs) not in known
        _, (universals, _, disjuncts), induction = claim_in(self.scope, name)
        if name in names_of_claims(block_with(self.scope, self.claim)):
            bounds = [goal[1][hypotheses[number]][1] for number in induction]
            if not any(bound == (place, True) and all(before in ((at, True), (at, False))
                                                      for at, before in enumerate(bounds[:place]))
                       for place, bound in enumerate(bounds)):
                return False
        if len(disjuncts) == 1 and not existentials_of(universals, disjuncts[0]):
            return not all(substitute(atom, pairs) in known for atom in disjuncts[0])
        return True

    def new(self, count):
        self.fresh += count
        return {number: f"?{self.fresh - number}" for number in range(count)}

    def search(self, goal, states, tried, accepts):
        """The last state, of (first state, atoms that remain, bindings, rules, hypotheses), or None."""
        for state in states:
            _, remaining, bindings, rules, _ = state
            atoms = [atom for atom, _, _ in remaining] + [atom for _, _, atom in rules]
            sizes = [measures(bound(atom, bindings)) for atom in atoms]
            if any(size > 60 or depth > 12 for size, depth in sizes):
                continue
            self.unit()
            if not remaining:
                if accepts(state):
                    return state
                continue
            found = self.search(goal, self.following(goal, state, tried), tried, accepts)
            if found is not None:
                return found
        return None

    def following(self, goal, state, tried):
        first, ((atom, number, place), *rest), bindings, rules, hypotheses = state
        for hypothesis, known in enumerate(atoms_of_goal(goal)):
            if tried is None or hypothesis in tried[place]:
                more = joined(atom, known, bindings)
                if more is not None:
                    yield (first, rest, more, rules, hypotheses + [hypothesis])
        for rule in by_name(self.scope[0]) if number else ():
            own = self.new(len(variables_of_rule(rule)))
            conclusion = renamed(rule[2], own)
            more = joined(atom, conclusion, bindings)
            if more is not None:
                premises = [(renamed(premise, own), number - 1, place) for premise in rule[1]]
                yield (first, premises + rest, more, rules + [(rule, own, conclusion)], hypotheses)

    def auto(self, goal, most):
        universals, _, disjuncts = claim_in(self.scope, self.claim)[1]
        states, own = [], []
        for place, atoms in enumerate(disjuncts):
            count = len(existentials_of(universals, atoms))
            own.append(list(self.new(count).values()))
            table = dict(enumerate(list(goal[0]) + own[place]))
            states.append((place, [(renamed(atom, table), most, None) for atom in atoms], {}, [], []))
        found = self.search(goal, states, None, lambda state: True)
        if found is None:
            raise Failed("search")
        disjunct, _, bindings, rules, _ = found
        for number in range(self.fresh + 1):
            bindings = bindings if f"?{number}" in bindings else {**bindings, f"?{number}": ("any",)}
        made, goals = None, [goal]
        for rule, own_of_rule, conclusion in rules[::-1]:
            known = atoms_of_goal(goals[0])
            if bound(conclusion, bindings) not in known:
                terms = tuple(bound(own_of_rule[number], bindings) for number in range(len(own_of_rule)))
                used = tuple(known.index(bound(renamed(premise, own_of_rule), bindings)) for premise in rule[1])
                step, goals = self.step(goals[0], ("rule", rule[0], terms, used))
                made = fill(made, [step])[0]
        step, _ = self.step(goals[0], ("done", disjunct, tuple(bound(term, bindings) for term in own[disjunct])))
        return fill(made, [step])[0], []


def fill(argument, arguments):
    """The unfinished proof with the arguments in the places of its Nones, and the arguments that are left."""
    if argument is None:
        return arguments[0], arguments[1:]
    step, parts = argument
    made = []
    for label, part in parts:
        part, arguments = fill(part, arguments)
        made.append((label, part))
    return (step, tuple(made)), arguments


def depth_of_proof(argument):
    """The depth of an unfinished proof, where a None counts as no depth."""
    if argument is None:
        return 0
    return 1 + max((depth_of_proof(part) for _, part in argument[1]), default=0)


def slow_tactic(scope, claim, goal, tactic, units=300):
    """The unfinished proof and the goals that are left, or the reason for which the tactic fails."""
    try:
        argument, goals = Slow(scope, claim, units).run(goal, tactic)
    except Failed as failure:
        return failure.args[0]
    if depth_of_proof(argument) > 60:
        return "work"
    return argument, tuple(goals)
