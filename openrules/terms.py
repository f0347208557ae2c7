"""Terms and atoms: their sizes, variables, subterms, instances and numbering."""


def key_of(term):
    """Return a string that no other term has.

    Terms nest deeper than the keys of a dict may, so a string stands for the term there.
    """
    return repr(term)


def occurrences_in(term):
    """Return the list of all occurrences of subterms, a term before its arguments, from left to right."""
    found = []
    waiting = [term]
    while waiting:
        part = waiting.pop()
        found.append(part)
        if not isinstance(part, int):
            waiting.extend(part[:0:-1])
    return found


def size_of(term):
    """Return the number of occurrences of names and variables."""
    return len(occurrences_in(term))


def depth_of(term):
    """Return 1 for a variable and for a name alone, otherwise 1 more than the greatest depth of the arguments."""
    if isinstance(term, int):
        return 1
    return 1 + max([depth_of(part) for part in term[1:]], default=0)


def variables_of(terms):
    """Return the variables of the terms, each once, in the order of their first occurrences."""
    found = {}
    for term in terms:
        for part in occurrences_in(term):
            if isinstance(part, int):
                found[part] = True
    return tuple(found)


def subterms_of(term):
    """Return the subterms, each once, in the order of their first occurrences."""
    found = {}
    for part in occurrences_in(term):
        found.setdefault(key_of(part), part)
    return tuple(found.values())


def relation_of(atom):
    """Return the pair of the first place and the number of arguments."""
    return (atom[0], len(atom) - 1)


def instance_of(term, table):
    """Return the term with its variables replaced as the dict tells; variables without a key stay."""
    if isinstance(term, int):
        return table.get(term, term)
    return term[:1] + tuple(instance_of(part, table) for part in term[1:])


def substitute(term, pairs):
    """Return the instance in which all variables are replaced at once, as the pairs tell."""
    return instance_of(term, dict(pairs))


def numbered(terms):
    """Return the terms with their variables numbered, through all of them together."""
    table = {variable: number for number, variable in enumerate(variables_of(terms))}
    return tuple(instance_of(term, table) for term in terms)


def shifted(term, by):
    """Return the term with this integer added to each variable."""
    return instance_of(term, {variable: variable + by for variable in variables_of((term,))})
