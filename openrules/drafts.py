"""Unfinished proofs as flat lists, which can be put together without going down into them.

A draft is the list of the pieces of an unfinished proof, a step before its parts and the parts in order: a piece is
the pair of a step and the tuple of the labels of its parts, or None for an open goal. Proofs that are
being made can become much deeper than functions may call each other.
"""


def draft_of(argument):
    """Return the draft of the unfinished proof."""
    draft = []
    waiting = [argument]
    while waiting:
        part = waiting.pop()
        if part is None:
            draft.append(None)
        else:
            step, parts = part
            draft.append((step, tuple(label for label, _ in parts)))
            waiting.extend([inner for _, inner in parts[::-1]])
    return draft


def argument_from(draft):
    """Return the unfinished proof with this draft."""
    made = []
    for piece in draft[::-1]:
        if piece is None:
            made.append(None)
        else:
            step, labels = piece
            made.append((step, tuple([(label, made.pop()) for label in labels])))
    return made[0]


def draft_filled(draft, drafts):
    """Return the draft in which each None is replaced by the pieces of the draft with the same number."""
    filled = []
    count = 0
    for piece in draft:
        if piece is None:
            filled.extend(drafts[count])
            count += 1
        else:
            filled.append(piece)
    return filled


def draft_steps(draft):
    """Return the number of steps; a None counts as no step."""
    return len([piece for piece in draft if piece is not None])


def draft_depth(draft):
    """Return the depth, where a None counts as no depth."""
    deepest = 0
    waiting = [1]
    for piece in draft:
        depth = waiting.pop()
        if piece is not None:
            deepest = max(deepest, depth)
            waiting.extend(len(piece[1]) * [depth + 1])
    return deepest
