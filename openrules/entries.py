"""The entries that a theorem needs, the goal that an entry has to prove, and why an entry can be refused."""

from openrules.errors import TooLarge
from openrules.goals import case_goal, initial_goal
from openrules.rules import by_name
from openrules.scopes import block_with, claim_in, rule_in
from openrules.unification import overlaps


def goal_of_entry(scope, name, rule_name):
    """Return None and the goal of the theorem's proof, or of its case for the rule.

    If there is none, return the first of the reasons claim, open, rule, case and limits, and None.
    """
    claim = claim_in(scope, name)
    if claim is None:
        return ("claim", None)
    is_open, _ = block_with(scope, name)
    if is_open != (rule_name is not None):
        return ("open", None)
    if rule_name is None:
        # Twelve variables and four atoms of size 60 are always within the limits.
        return (None, initial_goal(claim))
    rule = rule_in(scope, rule_name)
    if rule is None:
        return ("rule", None)
    try:
        goal = case_goal(claim, rule)
    except TooLarge:
        return ("limits", None)
    if goal is None:
        return ("case", None)
    return (None, goal)


def rules_applying(rules, claim):
    """Return the names of the rules and refl, by name, that apply to the theorem, which has induction premises."""
    _, (_, premises, _), induction = claim
    return tuple(rule[0] for rule in by_name(rules) if overlaps(premises[induction[0]], rule[2]))
