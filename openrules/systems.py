"""Systems: modules that are linked, and whose theorems can be carried out."""

from openrules.deciding import decide
from openrules.derivations import fact_of
from openrules.errors import LinkProblems, UnknownClaim, WrongDerivation
from openrules.linking import problems_of
from openrules.machine import run_plan
from openrules.modules import members_of, scope_of
from openrules.plans import plan_of
from openrules.terms import substitute


def link(modules):
    """Return the system of all modules that these modules consist of.

    Raises TooLarge or LinkProblems, in this order.
    """
    members = members_of(modules)
    summaries = tuple(summary for _, summary in members)
    problems = problems_of(summaries)
    if problems:
        raise LinkProblems(problems)
    return System(scope_of(summaries), tuple(entry for parts, _ in members for entry in parts[4]))


class System:
    """Linked modules: a scope, and proofs of all its theorems for all its rules. Systems are made by `link`."""

    def __init__(self, scope, entries):
        self._scope = scope
        self._plan = plan_of(scope, entries)
        self._statements = {claim[0]: claim[1] for _, inner in scope[1] for claim in inner}
        self._names = sorted(self._statements)

    def __len__(self):
        return len(self._names)

    def __contains__(self, name):
        return name in self._statements

    def __iter__(self):
        return iter(self._names)

    @property
    def rules(self):
        """The rules by name, without refl."""
        return self._scope[0]

    @property
    def blocks(self):
        """The blocks by name."""
        return self._scope[1]

    @property
    def claims(self):
        """The pairs (name, statement) of all theorems, by name."""
        return tuple((name, self._statements[name]) for name in self._names)

    def decide(self, statement):
        """Return the decision whether the statement follows from the rules; raises as `decide` does."""
        return decide(self._scope[0], statement)

    def make_plan(self):
        """Return the plan for the proofs of the system."""
        return self._plan

    def carry_out(self, claim, terms, derivations):
        """Return the triple (disjunct, terms, derivations) to which the theorem turns derivations of its premises.

        Raises UnknownClaim, WrongDerivation or TooLarge, in this order.
        """
        if claim not in self._statements:
            raise UnknownClaim(claim)
        pairs = tuple(enumerate(terms))
        for place, premise in enumerate(self._statements[claim][1]):
            if fact_of(self._scope[0], derivations[place]) != substitute(premise, pairs):
                raise WrongDerivation(place)
        return run_plan(self._plan, claim, terms, derivations)
