"""The refusals: one class for each thing that may be wrong with what is handed in."""


class WhereError(ValueError):
    """Every refusal of this package."""


class NoPoint(WhereError):
    """What is no point, or no fraction, was handed in as one."""


class NoMap(WhereError):
    """What is no map was handed in as one."""


class NoFrames(WhereError):
    """What are no frames were handed in as such."""


class NoFrame(WhereError):
    """What is neither the ground nor one of the frames was named."""


class NoRing(WhereError):
    """What is no ring was handed in as one."""


class NoPoints(WhereError):
    """What is no tuple of one to twelve points was handed in as one."""


class NoTile(WhereError):
    """What is no tile's code was handed in as one."""


class NoDepth(WhereError):
    """What is no count of figures was handed in as one."""


class NoTiles(WhereError):
    """What are no codes were handed in as such."""


class NotThere(WhereError):
    """A place does not lie on the land, or a form has nothing there."""


class NoWeb(WhereError):
    """What is no web of roads was handed in as one."""


class NoRoad(WhereError):
    """What is no road's number was handed in as one."""


class NoSpot(WhereError):
    """What is no spot of a web was handed in as one."""


class NoClosed(WhereError):
    """What is no rising tuple of roads' numbers was handed in as closed."""


class NoRows(WhereError):
    """What are no rows of a web were handed in as such."""


class NoStreet(WhereError):
    """What is no street's name was handed in as one."""


class NoNumber(WhereError):
    """What is no house's number was handed in as one."""


class NoDay(WhereError):
    """What is no day, or one too early, was handed in as one."""


class NoMoves(WhereError):
    """What are no moves were handed in as such."""


class NoRegion(WhereError):
    """What is no region's name was handed in as one."""


class NoInstant(WhereError):
    """What is no instant was handed in as one."""


class NoZones(WhereError):
    """What are no zones were handed in as such."""


class NoTelling(WhereError):
    """What is no clock's telling was handed in as one."""


class NoAtlas(WhereError):
    """What is no atlas was handed in as one."""


class NoForm(WhereError):
    """What is no form of a place was handed in as one."""


class NoKind(WhereError):
    """What is no kind of form was handed in as one."""


class NoChain(WhereError):
    """What is no tuple of one to eight kinds was handed in as a chain."""


class NoName(WhereError):
    """What is no name, or one that means nothing, was handed in."""


class NoDeed(WhereError):
    """There is no deed to take back."""


class NoText(WhereError):
    """A text does not tell what it was read as."""


class NoLine(WhereError):
    """A line is none that a desk knows."""
