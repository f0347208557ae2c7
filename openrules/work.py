"""The work that one run of a tactic may do."""

from openrules.errors import TacticFailed

MOST_UNITS = 300


class Work:
    """The units of work that are left."""

    def __init__(self):
        self.units = MOST_UNITS

    def use(self):
        """Use one unit. Raises TacticFailed with the reason work if none is left."""
        if self.units == 0:
            raise TacticFailed("work")
        self.units -= 1
