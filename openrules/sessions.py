"""Sessions: proofs that are made tactic by tactic."""

from openrules.arguments import MOST_DEPTH, MOST_STEPS
from openrules.drafts import draft_depth, draft_of, draft_steps
from openrules.entries import goal_of_entry
from openrules.errors import EntryRefused, NoOpenGoal, NothingToUndo, ScriptFull, TooLarge
from openrules.tactics import filled, run_tactic

MOST_TACTICS = 40


class Session:
    """The making of the proof of a theorem, or of its case for a rule."""

    def __init__(self, scope, claim, *, rule=None):
        reason, goal = goal_of_entry(scope, claim, rule)
        if reason is not None:
            raise EntryRefused(0, reason)
        self._scope = scope
        self._claim = claim
        self._tactics = []
        # The open goals and the proof so far, at first and then behind each tactic of the script.
        self._stages = [((goal,), None)]

    @property
    def goals(self):
        """The open goals, in order."""
        return self._stages[-1][0]

    @property
    def script(self):
        """The tactics that were run and not undone."""
        return tuple(self._tactics)

    @property
    def argument(self):
        """The proof so far, with a None for each open goal."""
        return self._stages[-1][1]

    def run(self, tactic):
        """Run the tactic on the first open goal; return the number of the goals that are open then.

        Raises ScriptFull, NoOpenGoal, TacticFailed or TooLarge, in this order.
        """
        if len(self._tactics) == MOST_TACTICS:
            raise ScriptFull()
        goals, argument = self._stages[-1]
        if not goals:
            raise NoOpenGoal()
        made, left = run_tactic(self._scope, self._claim, goals[0], tactic)
        argument = filled(argument, (made,) + (len(goals) - 1) * (None,))
        draft = draft_of(argument)
        if draft_steps(draft) > MOST_STEPS or draft_depth(draft) > MOST_DEPTH:
            raise TooLarge()
        self._tactics.append(tactic)
        self._stages.append((left + goals[1:], argument))
        return len(left + goals[1:])

    def undo(self):
        """Take back the last tactic of the script; return the number of the goals that are open then.

        Raises NothingToUndo if the script is empty.
        """
        if not self._tactics:
            raise NothingToUndo()
        self._tactics.pop()
        self._stages.pop()
        return len(self._stages[-1][0])
