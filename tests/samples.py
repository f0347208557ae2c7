"""Rules, terms, theorems and modules that several tests use."""

from openrules.modules import Module

NAT_Z = ("natZ", (), ("nat", ("z",)))
NAT_S = ("natS", (("nat", 0),), ("nat", ("s", 0)))
ADD_Z = ("addZ", (), ("add", ("z",), 0, 0))
ADD_S = ("addS", (("add", 0, 1, 2),), ("add", ("s", 0), 1, ("s", 2)))
NATURALS = (NAT_Z, NAT_S, ADD_Z, ADD_S)

Z = ("z",)
ONE = ("s", Z)
TWO = ("s", ONE)

RIGHT = ("addZero", (1, (("nat", 0),), ((("add", 0, Z, 0),),)), (0,))
EVEN = ("evenNat", (1, (("even", 0),), ((("nat", 0),),)), (0,))
ODD = ("oddNat", (1, (("odd", 0),), ((("nat", 0),),)), (0,))
FINISH = (("", (("done", 0, ()), ())),)
FIRST = (("rule", "addZ", (Z,), ()), FINISH)
LATER = (("apply", "addZero", (0,), (1,)), (("", (("rule", "addS", (0, Z, 0), (2,)), FINISH)),))
SCOPE = (NATURALS, ((True, (RIGHT,)),))
GOAL = ((("s", 0),), ((("nat", ("s", 0)), (0, False)), (("nat", 0), (0, True))))


NAT_T = ("natT", (("nat", 0),), ("nat", ("t", 0)))
ADD_T = ("addT", (("add", 0, 1, 2),), ("add", ("t", 0), 1, ("t", 2)))
EXTRA = (("apply", "addZero", (0,), (1,)), (("", (("rule", "addT", (0, Z, 0), (2,)), FINISH)),))


def module(name, *imports, rules=(), blocks=(), entries=()):
    """A module that imports these modules."""
    return Module((name, tuple(imported.parts[0] for imported in imports), rules, blocks, entries), imports)


def arithmetic():
    """The three modules of the first examples of the document."""
    arith = module("arith", rules=NATURALS, blocks=((True, (RIGHT,)),),
                   entries=(("addZero", "natZ", FIRST), ("addZero", "natS", LATER)))
    twice = module("twice", arith, rules=(NAT_T, ADD_T))
    return arith, twice, module("cases", twice, entries=(("addZero", "natT", EXTRA),))


def chain(*steps):
    """The proof of these steps, each with one part without a label, and the last one without parts."""
    argument = (steps[-1], ())
    for step in steps[-2::-1]:
        argument = (step, (("", argument),))
    return argument


def number(count):
    """The derivation of nat(s(s(..(z)..))) with `count` times s."""
    derivation = ("natZ", (), ())
    for place in range(count):
        derivation = ("natS", (nested(place, Z),), (derivation,))
    return derivation


def nested(count, inner):
    """The term s(s(..(inner)..)) with `count` times s."""
    for _ in range(count):
        inner = ("s", inner)
    return inner


def broad(size, leaf=Z):
    """A term with this size and with this leaf, and a depth as small as its eight arguments allow."""
    if size == 1:
        return leaf
    places = min(8, size - 1)
    share, more = divmod(size - 1, places)
    return ("b",) + tuple(broad(share + (place < more), leaf) for place in range(places))


def doubling(first):
    """Two terms of size at most 60: unifying them doubles a variable 26 times, beginning with the variable `first`."""
    variables = range(first, first + 27)
    left, right = [], []
    for number in range(26):
        twice = ("g", variables[number + 1], variables[number + 1])
        one, other = (left, right) if number % 2 else (right, left)
        one.append(variables[number])
        other.append(twice)
    return grouped(left), grouped(right)


def grouped(parts):
    """The parts as arguments of applications of c, which themselves are arguments."""
    return ("c",) + tuple(("c",) + tuple(parts[start:start + 7]) for start in range(0, len(parts), 7))


def apart_doubling():
    """Two atoms without common variables, whose common instance doubles a variable 26 times."""
    left, right = [], []
    for number in range(13):
        left.extend([number, ("g", number, number)])
        right.extend([("g", number, number), number + 1])
    return grouped(left), grouped(right)


def doubling_case(*last):
    """An atom and the conclusion of a rule: unifying them doubles a variable 14 times. Both end with `last`."""
    left, right = (), ()
    for number in range(7):
        left += (number, ("g", number, number))
        right += (("g", number, number), number + 1)
    return tuple(("p", ("c",) + side[:7], ("c",) + side[7:]) + last for side in (left, right))
