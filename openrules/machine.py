"""The machine that runs plans: it turns derivations of the premises of a theorem into those of a disjunct.

The theorems that are being carried out stand in a list, so that functions need not call each other as deep.
"""

from openrules.errors import TooLarge, UnknownClaim
from openrules.terms import instance_of
from openrules.weights import joined, require_small, weighed

MOST_STEPS = 400
MOST_CLAIMS = 40


def run_plan(plan, claim, terms, derivations):
    """Return the triple (disjunct, terms, derivations) that results from running the plan for the theorem.

    Raises UnknownClaim or TooLarge, in this order.
    """
    programs = dict(plan)
    if claim not in programs:
        raise UnknownClaim(claim)
    machine = Machine(programs)
    machine.begin(claim, terms, tuple(weighed(derivation) for derivation in derivations))
    while machine.result is None:
        machine.step()
    disjunct, found, derived = machine.result
    return (disjunct, found, tuple(part[2] for part in derived))


class Machine:
    """The state of a run: the program that is begun next, the terms and weighed derivations on which it works,
    and what waits for the results of the theorems that are being carried out."""

    def __init__(self, programs):
        self.programs = programs
        self.program = None
        self.terms = ()
        self.derived = ()
        self.waiting = []
        self.steps = 0
        self.result = None

    def begin(self, claim, terms, derived):
        """Begin to carry out the theorem with this name."""
        self.program = self.programs[claim]
        self.terms = terms
        self.derived = derived

    def step(self):
        """Do what the program says, up to the one that is begun next."""
        self.steps += 1
        if self.steps > MOST_STEPS:
            raise TooLarge()
        kind = self.program[0]
        if kind == "done":
            self.finish()
        elif kind == "rule":
            self.use_rule()
        elif kind == "call":
            self.call()
        else:
            self.switch()

    def taken(self, terms):
        """Return the terms of the program with the terms on which it works in the places of their variables."""
        table = dict(enumerate(self.terms))
        found = tuple(instance_of(term, table) for term in terms)
        require_small(found)
        return found

    def parts_at(self, numbers):
        """Return the weighed derivations with these numbers."""
        return tuple(self.derived[number] for number in numbers)

    def finish(self):
        """Go on with the program that waits for the result, or keep the result if there is none."""
        _, disjunct, terms, numbers = self.program
        found = self.taken(terms)
        derived = self.parts_at(numbers)
        if self.waiting:
            programs, earlier, behind = self.waiting.pop()
            self.program = programs[disjunct]
            self.terms = earlier + found
            self.derived = behind + derived
        else:
            self.result = (disjunct, found, derived)

    def use_rule(self):
        """Make a derivation."""
        _, name, terms, numbers, following = self.program
        self.derived = self.derived + (joined(name, self.taken(terms), self.parts_at(numbers)),)
        self.program = following

    def call(self):
        """Begin to carry out a theorem, and let the programs for its disjuncts wait."""
        _, name, terms, numbers, programs = self.program
        found = self.taken(terms)
        # The theorem that applies this one is being carried out, too, but does not wait yet.
        if len(self.waiting) + 1 >= MOST_CLAIMS:
            raise TooLarge()
        self.waiting.append((programs, self.terms, self.derived))
        self.begin(name, found, self.parts_at(numbers))

    def switch(self):
        """Choose the case for the rule that was used last in a derivation."""
        _, number, cases = self.program
        _, _, (name, terms, _), inner = self.derived[number]
        origins = {"goal": self.terms, "rule": terms}
        for rule, sources, program in cases:
            if rule == name:
                self.terms = tuple(_term_at(origins[origin][variable], path) for origin, variable, path in sources)
                self.program = program
        self.derived = self.derived + inner


def _term_at(term, path):
    for place in path:
        term = term[place]
    return term
