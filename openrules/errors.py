"""The errors of the package. None of them is a subclass of another one, except of RuleError."""


class RuleError(ValueError):
    """The base class of all errors."""


class WrongImports(RuleError):
    """The imports in the parts of a module are not the modules that were given."""


class WrongDecision(RuleError):
    """A decision is not right, or does not say that the statement follows."""


class TooLarge(RuleError):
    """Something would go beyond a bound."""


class HasExistentials(RuleError):
    """A statement has existential variables where it must have none."""


class NoOpenGoal(RuleError):
    """A session has no goal left to run a tactic on."""


class NothingToUndo(RuleError):
    """The script of a session is empty."""


class ScriptFull(RuleError):
    """The script of a session has as many tactics as it may have."""


class InvalidRule(RuleError):
    """The rule with this name is not valid."""

    def __init__(self, name):
        self.name = name


class InvalidClaim(RuleError):
    """The block with this name is not valid."""

    def __init__(self, name):
        self.name = name


class DuplicateModule(RuleError):
    """Two modules have this name."""

    def __init__(self, name):
        self.name = name


class DuplicateName(RuleError):
    """Two rules or theorems have this name."""

    def __init__(self, name):
        self.name = name


class NotDetermined(RuleError):
    """The rule with this name is not determined by its conclusion."""

    def __init__(self, name):
        self.name = name


class UnknownClaim(RuleError):
    """There is no theorem with this name."""

    def __init__(self, name):
        self.name = name


class WrongDerivation(RuleError):
    """The derivation at this place is not one of what it should derive."""

    def __init__(self, place):
        self.place = place


class InvalidNumbers(RuleError):
    """The integers cannot be read as a module beyond this place."""

    def __init__(self, place):
        self.place = place


class EntryRefused(RuleError):
    """The entry at this place is refused for this reason."""

    def __init__(self, place, reason):
        self.place = place
        self.reason = reason


class TacticFailed(RuleError):
    """A tactic failed for this reason."""

    def __init__(self, reason):
        self.reason = reason


class LinkProblems(RuleError):
    """The modules cannot be linked because of these problems."""

    def __init__(self, problems):
        self.problems = problems
