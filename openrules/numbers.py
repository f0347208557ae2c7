"""Modules as numbers: the parts of a module are written as integers from 0 to 255."""

HEAD = (79, 82, 77, 49)
STEPS = ("done", "rule", "apply", "invert")


def numbers_of(parts):
    """Return the tuple of the integers as which the parts are written."""
    name, imports, rules, blocks, entries = parts
    numbers = list(HEAD)
    _write_name(numbers, name)
    _write_list(numbers, imports, _write_name)
    _write_list(numbers, rules, _write_rule)
    _write_list(numbers, blocks, _write_block)
    _write_list(numbers, entries, _write_entry)
    return tuple(numbers)


def _write_list(numbers, members, write):
    numbers.append(len(members))
    for member in members:
        write(numbers, member)


def _write_number(numbers, number):
    numbers.append(number)


def _write_name(numbers, name):
    """Write a name, the empty label, or the sign of an equation."""
    numbers.append(len(name))
    numbers.extend([ord(sign) for sign in name])


def _write_term(numbers, term):
    """Write a term or an atom."""
    if isinstance(term, int):
        numbers.append(0)
        numbers.extend(list(divmod(term, 256)))
    else:
        numbers.append(len(term))
        _write_name(numbers, term[0])
        for part in term[1:]:
            _write_term(numbers, part)


def _write_rule(numbers, rule):
    name, premises, conclusion = rule
    _write_name(numbers, name)
    _write_list(numbers, premises, _write_term)
    _write_term(numbers, conclusion)


def _write_disjunct(numbers, atoms):
    _write_list(numbers, atoms, _write_term)


def _write_claim(numbers, claim):
    name, (universals, premises, disjuncts), induction = claim
    _write_name(numbers, name)
    numbers.append(universals)
    _write_list(numbers, premises, _write_term)
    _write_list(numbers, disjuncts, _write_disjunct)
    _write_list(numbers, induction, _write_number)


def _write_block(numbers, block):
    is_open, claims = block
    numbers.append(int(is_open))
    _write_list(numbers, claims, _write_claim)


def _write_step(numbers, step):
    kind = step[0]
    numbers.append(1 + STEPS.index(kind))
    if kind == "done":
        numbers.append(step[1])
        _write_list(numbers, step[2], _write_term)
    elif kind == "invert":
        numbers.append(step[1])
    else:
        _, name, terms, hypotheses = step
        _write_name(numbers, name)
        _write_list(numbers, terms, _write_term)
        _write_list(numbers, hypotheses, _write_number)


def _write_part(numbers, part):
    label, argument = part
    _write_name(numbers, label)
    _write_argument(numbers, argument)


def _write_argument(numbers, argument):
    step, parts = argument
    _write_step(numbers, step)
    _write_list(numbers, parts, _write_part)


def _write_entry(numbers, entry):
    claim, rule, argument = entry
    _write_name(numbers, claim)
    if rule is None:
        numbers.append(0)
    else:
        numbers.append(1)
        _write_name(numbers, rule)
    _write_argument(numbers, argument)
