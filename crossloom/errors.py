"""The errors of crossloom: all stand under FabricFault, a ValueError."""


class FabricFault(ValueError):
    """What crossloom refuses."""


class BadGate(FabricFault):
    """A gate that isn't there, or is told twice."""


class BadNet(FabricFault):
    """A net that can't be: its size, its stages or its settings."""


class BadRate(FabricFault):
    """Rates that are more than what can be carried."""


class BadSize(FabricFault):
    """A count or number that is out of bounds."""


class Blocked(FabricFault):
    """A call or cell that finds no way."""


class BadPaper(FabricFault):
    """A paper that doesn't show what it is to show."""


class BadText(FabricFault):
    """A text that isn't one of the language."""


class BadStore(FabricFault):
    """Kept words that aren't whole."""


class NoSuch(FabricFault):
    """What isn't there."""
