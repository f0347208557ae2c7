"""Modules: rules and theorems, and proofs that are checked once, when a module is made."""

from openrules.arguments import applied_claims, inverted_atoms, is_within_limits
from openrules.claims import is_valid_block, name_of_block, names_of_claims
from openrules.entries import goal_of_entry
from openrules.errors import DuplicateModule, DuplicateName, EntryRefused
from openrules.errors import InvalidClaim, InvalidRule, TooLarge, WrongImports
from openrules.kernel import check_argument
from openrules.rules import REFL, is_valid_rule
from openrules.scopes import repeated

MOST_MODULES = 6
MOST_RULES = 24
MOST_CLAIMS = 12
MOST_ENTRIES = 24


class Module:
    """A module, made of its parts and of the modules that it imports."""

    def __init__(self, parts, imports=()):
        _check_imports(parts[1], imports)
        _check_declarations(parts[2], parts[3])
        members = members_of(imports)
        summaries = tuple(summary for _, summary in members)
        scope = scope_of(summaries + (parts[:4] + ((),),))
        entries = parts[4]
        if len(entries) > MOST_ENTRIES:
            raise TooLarge()
        summarized = [_summarized(scope, place, entry) for place, entry in enumerate(entries)]
        self._members = members + ((parts, parts[:4] + (tuple(summarized),)),)

    @property
    def parts(self):
        """The parts of which the module is made."""
        return self._members[-1][0]

    @property
    def summary(self):
        """The summary of the module, which is all that the linker looks at."""
        return self._members[-1][1]

    @property
    def summaries(self):
        """The summaries of all modules that the module consists of, its own last."""
        return tuple(summary for _, summary in self._members)

    def members(self):
        """Return the pairs (parts, summary) of all modules that the module consists of, its own last."""
        return self._members


def members_of(modules):
    """Return the pairs (parts, summary) of all modules that these modules consist of, in their order."""
    found = []
    for module in modules:
        for parts, summary in module.members():
            if parts not in [known for known, _ in found]:
                found.append((parts, summary))
    return tuple(found)


def summaries_of(modules):
    """Return the summaries of all modules that these modules consist of, in their order."""
    return tuple(summary for _, summary in members_of(modules))


def scope_of(summaries):
    """Return the scope of the modules with these summaries.

    Raises DuplicateModule, DuplicateName or TooLarge, in this order.
    """
    twice = repeated([summary[0] for summary in summaries])
    if twice:
        raise DuplicateModule(twice[0])
    twice = repeated(names_declared(summaries))
    if twice:
        raise DuplicateName(twice[0])
    require_few(summaries)
    rules = sorted(rules_declared(summaries), key=lambda rule: rule[0])
    blocks = sorted(blocks_declared(summaries), key=name_of_block)
    return (tuple(rules), tuple(blocks))


def require_few(summaries):
    """Raise TooLarge if there are too many modules, or if these have too many rules or theorems.

    What has a name that occurs repeatedly counts each time.
    """
    claims = [claim for block in blocks_declared(summaries) for claim in block[1]]
    if len(summaries) > MOST_MODULES or len(rules_declared(summaries)) > MOST_RULES or len(claims) > MOST_CLAIMS:
        raise TooLarge()


def rules_declared(summaries):
    """Return the list of all rules, summary by summary."""
    return [rule for summary in summaries for rule in summary[2]]


def blocks_declared(summaries):
    """Return the list of all blocks, summary by summary."""
    return [block for summary in summaries for block in summary[3]]


def names_declared(summaries):
    """Return the list of the names of all rules and theorems, refl first, then summary by summary."""
    names = [REFL[0]]
    for _, _, rules, blocks, _ in summaries:
        names.extend([rule[0] for rule in rules])
        names.extend([name for block in blocks for name in names_of_claims(block)])
    return names


def _check_imports(names, imports):
    if names != tuple(module.parts[0] for module in imports) or repeated(names):
        raise WrongImports()


def _check_declarations(rules, blocks):
    for rule in rules:
        if not is_valid_rule(rule):
            raise InvalidRule(rule[0])
    for block in blocks:
        if not is_valid_block(block):
            raise InvalidClaim(name_of_block(block))


def _summarized(scope, place, entry):
    """Return the entry as it stands in a summary. Raises EntryRefused with this place if its proof cannot be taken."""
    claim, rule, argument = entry
    reason, goal = goal_of_entry(scope, claim, rule)
    if reason is not None:
        raise EntryRefused(place, reason)
    if not is_within_limits(argument):
        raise EntryRefused(place, "limits")
    if check_argument(scope, claim, goal, argument) is not None:
        raise EntryRefused(place, "argument")
    return (claim, rule, inverted_atoms(scope, claim, goal, argument), applied_claims(argument))
