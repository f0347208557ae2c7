"""Modules as numbers: the parts of a module are read.

Whatever has been read can go on in some way, so the first integer that cannot stand in its place is
always the one that is read next.
"""

from openrules.errors import InvalidNumbers
from openrules.numbers import HEAD, STEPS
from openrules.validity import MOST_ARGUMENTS, MOST_SIGNS, NAME_SIGNS, SMALL_LETTERS

MOST_NUMBER = 255
MOST_TERM_DEPTH = 20
MOST_PROOF_DEPTH = 60
EQUATION_PLACES = 3


def parts_of(numbers):
    """Return the parts that are written as these integers.

    Raises InvalidNumbers with the index of the first integer that cannot stand there, or with the number of the
    integers if there are too few.
    """
    reader = Reader(numbers)
    for number in HEAD:
        reader.take(number, number)
    name = _read_name(reader)
    imports = _read_list(reader, _read_name)
    rules = _read_list(reader, _read_rule)
    blocks = _read_list(reader, _read_block)
    entries = _read_list(reader, _read_entry)
    if reader.place < len(numbers):
        raise InvalidNumbers(reader.place)
    return (name, imports, rules, blocks, entries)


class Reader:
    """Integers, and the place of the one that is read next."""

    def __init__(self, numbers):
        self.numbers = numbers
        self.place = 0
        self.signs = {ord(sign): sign for sign in NAME_SIGNS + "="}

    def take(self, least, most):
        """Read an integer within these bounds."""
        if self.place == len(self.numbers) or not least <= self.numbers[self.place] <= most:
            raise InvalidNumbers(self.place)
        self.place += 1
        return self.numbers[self.place - 1]

    def take_sign(self, allowed):
        """Read the code of a sign that is one of those in the string; return the sign."""
        if self.place == len(self.numbers) or self.signs.get(self.numbers[self.place], " ") not in allowed:
            raise InvalidNumbers(self.place)
        self.place += 1
        return self.signs[self.numbers[self.place - 1]]


def _read_list(reader, read, least=0, most=MOST_NUMBER):
    count = reader.take(least, most)
    return tuple([read(reader) for _ in range(count)])


def _read_number(reader):
    return reader.take(0, MOST_NUMBER)


def _read_name(reader):
    return _read_signs(reader, reader.take(1, MOST_SIGNS), SMALL_LETTERS)


def _read_label(reader):
    length = reader.take(0, MOST_SIGNS)
    if length == 0:
        return ""
    return _read_signs(reader, length, SMALL_LETTERS)


def _read_signs(reader, length, first):
    """Read a name of this length, whose first sign is one of those in the string."""
    signs = [reader.take_sign(first)]
    for _ in range(length - 1):
        signs.append(reader.take_sign(NAME_SIGNS))
    return "".join(signs)


def _read_atom(reader):
    places = reader.take(1, 1 + MOST_ARGUMENTS)
    length = reader.take(1, MOST_SIGNS)
    first = SMALL_LETTERS
    if places == EQUATION_PLACES and length == 1:
        first = SMALL_LETTERS + "="
    name = _read_signs(reader, length, first)
    return (name,) + _read_arguments(reader, places - 1, 2)


def _read_arguments(reader, count, depth):
    return tuple([_read_term(reader, depth) for _ in range(count)])


def _read_term(reader, depth=1):
    """Read a term that stands at this depth."""
    most = 1 + MOST_ARGUMENTS
    if depth == MOST_TERM_DEPTH:
        most = 1
    places = reader.take(0, most)
    if places == 0:
        high = _read_number(reader)
        return high * 256 + _read_number(reader)
    name = _read_name(reader)
    return (name,) + _read_arguments(reader, places - 1, depth + 1)


def _read_rule(reader):
    name = _read_name(reader)
    premises = _read_list(reader, _read_atom)
    return (name, premises, _read_atom(reader))


def _read_disjunct(reader):
    return _read_list(reader, _read_atom)


def _read_claim(reader):
    name = _read_name(reader)
    universals = _read_number(reader)
    premises = _read_list(reader, _read_atom)
    disjuncts = _read_list(reader, _read_disjunct)
    return (name, (universals, premises, disjuncts), _read_list(reader, _read_number))


def _read_block(reader):
    is_open = reader.take(0, 1) == 1
    return (is_open, _read_list(reader, _read_claim, 1))


def _read_step(reader):
    kind = STEPS[reader.take(1, len(STEPS)) - 1]
    if kind == "done":
        disjunct = _read_number(reader)
        return (kind, disjunct, _read_list(reader, _read_term))
    if kind == "invert":
        return (kind, _read_number(reader))
    name = _read_name(reader)
    terms = _read_list(reader, _read_term)
    return (kind, name, terms, _read_list(reader, _read_number))


def _read_argument(reader, depth=1):
    """Read a proof that stands at this depth."""
    step = _read_step(reader)
    most = MOST_NUMBER
    if depth == MOST_PROOF_DEPTH:
        most = 0
    count = reader.take(0, most)
    parts = []
    for _ in range(count):
        label = _read_label(reader)
        parts.append((label, _read_argument(reader, depth + 1)))
    return (step, tuple(parts))


def _read_entry(reader):
    claim = _read_name(reader)
    rule = None
    if reader.take(0, 1) == 1:
        rule = _read_name(reader)
    return (claim, rule, _read_argument(reader))
