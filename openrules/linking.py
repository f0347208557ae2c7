"""Linking: whether all theorems are proved for the rules of all modules, told from their summaries alone."""

from openrules.claims import name_of_block, names_of_claims
from openrules.entries import rules_applying
from openrules.modules import blocks_declared, names_declared, require_few, scope_of
from openrules.scopes import repeated
from openrules.unification import overlaps


def problems_of(summaries):
    """Return the tuple of the problems of linking the modules with these summaries.

    Raises TooLarge if there are more than 6 summaries, or more than 24 rules or 12 theorems in all of them.
    """
    require_few(summaries)
    modules = [("duplicate module", name) for name in repeated([summary[0] for summary in summaries])]
    names = [("duplicate name", name) for name in repeated(names_declared(summaries))]
    if modules or names:
        return tuple(modules + names)
    scope = scope_of(summaries)
    entries = [entry for summary in summaries for entry in summary[4]]
    return tuple(_missing(scope, entries) + _repeated(entries) + _new_cases(scope, summaries) + _circular(summaries))


def block_order(summaries):
    """Return the names of the blocks, each behind those on which it depends, or None if one depends on itself."""
    needs = _direct_needs(summaries)
    order = []
    while len(order) < len(needs):
        ready = [name for name in needs if name not in order and all(other in order for other in needs[name])]
        if not ready:
            return None
        order.append(min(ready))
    return tuple(order)


def _problem(word, claim, rule):
    """Return the problem with this word about the proof of the theorem, or about its case for the rule."""
    if rule is None:
        return (f"{word} argument", claim)
    return (f"{word} case", claim, rule)


def _missing(scope, entries):
    rules, blocks = scope
    known = [(claim, rule) for claim, rule, _, _ in entries]
    needed = []
    for is_open, claims in blocks:
        for claim in claims:
            wanted = (None,)
            if is_open:
                wanted = rules_applying(rules, claim)
            needed.append((claim[0], wanted))
    return [
        _problem("missing", claim, rule)
        for claim, wanted in sorted(needed, key=lambda row: row[0])
        for rule in wanted
        if (claim, rule) not in known
    ]


def _repeated(entries):
    return [_problem("repeated", claim, rule) for claim, rule in repeated([(entry[0], entry[1]) for entry in entries])]


def _new_cases(scope, summaries):
    """Return the problems of the rules that a module does not know, but that its inversions have to consider."""
    known = {}
    problems = []
    for name, imports, declared, _, entries in summaries:
        own = [rule[0] for rule in declared]
        inherited = [other for imported in imports for other in known[imported]]
        known[name] = {other: True for other in own + inherited}
        unknown = [rule for rule in scope[0] if rule[0] not in known[name]]
        for entry in entries:
            problems.extend(_new_cases_of(entry, unknown))
    return problems


def _new_cases_of(entry, unknown):
    claim, rule, inverts, _ = entry
    return [
        ("new case", claim, rule, atom, other)
        for atom in inverts
        for other, _, conclusion in unknown
        if overlaps(atom, conclusion)
    ]


def _circular(summaries):
    needs = _direct_needs(summaries)
    return [("circular arguments", name) for name in sorted(needs) if name in _all_needs(needs, name)]


def _direct_needs(summaries):
    """Return a dict that has for the name of each block a dict of the names of those on which it depends directly."""
    blocks = blocks_declared(summaries)
    homes = {claim: name_of_block(block) for block in blocks for claim in names_of_claims(block)}
    needs = {name_of_block(block): {} for block in blocks}
    for summary in summaries:
        for claim, _, _, uses in summary[4]:
            for used in uses:
                if homes[used] != homes[claim]:
                    needs[homes[claim]][homes[used]] = True
    return needs


def _all_needs(needs, name):
    """Return a dict of the names of the blocks to which a chain of direct dependencies leads from this one."""
    found = {}
    waiting = list(needs[name])
    while waiting:
        other = waiting.pop()
        if other not in found:
            found[other] = True
            waiting.extend(list(needs[other]))
    return found
