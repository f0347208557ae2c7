"""Tactics: running them on goals, and unfinished proofs."""

from openrules.applying import step_of_apply
from openrules.automatic import steps_of_auto
from openrules.drafts import argument_from, draft_depth, draft_filled, draft_of
from openrules.errors import TacticFailed
from openrules.kernel import outcome
from openrules.work import Work

MOST_DEPTH = 60
MOST_RUNS = 10


def run_tactic(scope, claim, goal, tactic):
    """Return the unfinished proof that the tactic makes, and the tuple of the goals that it leaves.

    Raises TacticFailed if it fails.
    """
    made = Runner(scope, claim).run(goal, tactic)
    draft = [piece for piece, _ in made]
    if draft_depth(draft) > MOST_DEPTH:
        raise TacticFailed("work")
    return (argument_from(draft), tuple(left for piece, left in made if piece is None))


def filled(argument, arguments):
    """Return the unfinished proof in which each None is replaced by the argument with the same number."""
    return argument_from(draft_filled(draft_of(argument), [draft_of(inner) for inner in arguments]))


class Runner:
    """Runs tactics for the proof of one theorem, with the work of one call.

    What a tactic makes is a list of pairs (piece, goal), whose pieces are a draft: a None stands beside its
    goal, and a step beside None.
    """

    def __init__(self, scope, claim):
        self.scope = scope
        self.claim = claim
        self.work = Work()

    def run(self, goal, tactic):
        """Return what the tactic makes of the goal. Raises TacticFailed."""
        self.work.use()
        kind = tactic[0]
        if kind == "step":
            return self.made(goal, tactic[1])
        if kind == "apply":
            return self.made(goal, step_of_apply(self.scope, self.claim, goal, tactic, self.work))
        if kind == "auto":
            return self.auto(goal, tactic[1])
        if kind == "then":
            return self.run_then(goal, tactic[1])
        if kind == "else":
            return self.run_else(goal, tactic[1])
        return self.run_repeat(goal, tactic[1])

    def made(self, goal, step):
        """Make the step."""
        fault, goals = outcome(self.scope, self.claim, goal, step)
        if fault is not None:
            raise TacticFailed(fault)
        labels = tuple(label for label, _ in goals)
        return [((step, labels), None)] + [(None, left) for _, left in goals]

    def auto(self, goal, most):
        steps = steps_of_auto(self.scope, self.claim, goal, most, self.work)
        made = [((step, ("",)), None) for step in steps[:-1]]
        return made + [((steps[-1], ()), None)]

    def run_then(self, goal, tactics):
        """Run the tactics one after another, depth first: all of them on a goal before the next goal."""
        made = []
        waiting = [(0, None, goal)]
        while waiting:
            number, piece, here = waiting.pop()
            if piece is not None:
                made.append((piece, None))
                continue
            if number > 0:
                self.work.use()
            if number < len(tactics):
                inner = self.run(here, tactics[number])
                waiting.extend([(number + 1, after, left) for after, left in inner[::-1]])
            else:
                made.append((None, here))
        return made

    def run_else(self, goal, tactics):
        """Run the tactics on the same goal until one of them does not fail."""
        if not tactics:
            raise TacticFailed("none")
        for number, tactic in enumerate(tactics[:-1]):
            if number > 0:
                self.work.use()
            made = self.attempt(goal, tactic)
            if made is not None:
                return made
        if len(tactics) > 1:
            self.work.use()
        return self.run(goal, tactics[-1])

    def run_repeat(self, goal, tactic):
        """Run the tactic on the goal and on what is left of it, depth first."""
        made = []
        waiting = [(0, None, goal)]
        while waiting:
            runs, piece, here = waiting.pop()
            inner = None
            if piece is None and runs < MOST_RUNS:
                inner = self.attempt(here, tactic)
            if inner is None:
                made.append((piece, here))
            else:
                waiting.extend([(runs + 1, after, left) for after, left in inner[::-1]])
        return made

    def attempt(self, goal, tactic):
        """Return what the tactic makes of the goal, or None if it fails while there is still work left."""
        try:
            return self.run(goal, tactic)
        except TacticFailed as failure:
            if failure.reason == "work":
                raise
            return None
