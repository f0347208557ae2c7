"""Theorems and the blocks in which they are proved together by induction."""

from openrules.statements import is_valid_statement
from openrules.validity import is_name

MOST_CLAIMS = 4


def name_of_block(block):
    """Return the name of the block, which is that of its first theorem."""
    return block[1][0][0]


def names_of_claims(block):
    """Return the list of the names of the theorems of the block."""
    return [claim[0] for claim in block[1]]


def is_valid_block(block):
    """Return whether the block is valid; any pairs of the form of a block may be passed."""
    is_open, claims = block
    if not 1 <= len(claims) <= MOST_CLAIMS or not all(_is_valid_claim(claim) for claim in claims):
        return False
    counts = [len(induction) for _, _, induction in claims]
    if is_open and counts[0] == 0:
        return False
    return all(count == counts[0] for count in counts)


def _is_valid_claim(claim):
    name, statement, induction = claim
    if not is_name(name) or not is_valid_statement(statement):
        return False
    if len(set(induction)) < len(induction):
        return False
    return all(number < len(statement[1]) for number in induction)
