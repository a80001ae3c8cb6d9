"""The errors that the package raises."""


class NetError(ValueError):
    """The base of all errors of this package."""


class InvalidNet(NetError):
    """What was given is no net."""

    def __init__(self, given):
        super().__init__("not a net")
        self.given = given


class InvalidState(NetError):
    """What was given is no state of the net, or not one of the kind that is asked for."""

    def __init__(self, given):
        super().__init__("not a state that fits")
        self.given = given


class InvalidCell(NetError):
    """What was given is no cell of the net, or not one that can move."""

    def __init__(self, given):
        super().__init__("not a cell that fits")
        self.given = given


class InvalidNumber(NetError):
    """What was given is no number of the kind that is asked for."""

    def __init__(self, given):
        super().__init__("not a number that fits")
        self.given = given


class InvalidFraction(NetError):
    """What was given is no fraction in lowest terms."""

    def __init__(self, given):
        super().__init__("not a fraction")
        self.given = given


class InvalidName(NetError):
    """What was given is no name."""

    def __init__(self, given):
        super().__init__("not a name")
        self.given = given


class InvalidDeed(NetError):
    """What was given is no deed or change that fits."""

    def __init__(self, given):
        super().__init__("not a deed that fits")
        self.given = given


class InvalidDrawing(NetError):
    """What was given is no drawing of a film."""

    def __init__(self, given):
        super().__init__("not a drawing of such a film")
        self.given = given


class InvalidLot(NetError):
    """A row of cells is wrong, from this index on; as a whole, if the index is None."""

    def __init__(self, index):
        super().__init__("not a row of cells that fits")
        self.index = index


class InvalidStates(NetError):
    """A row of states is wrong, from this index on; as a whole, if the index is None."""

    def __init__(self, index):
        super().__init__("not a row of states that fits")
        self.index = index


class InvalidPictures(NetError):
    """Pictures are wrong, from this index on; as a whole, if the index is None."""

    def __init__(self, index):
        super().__init__("not pictures that fit")
        self.index = index


class InvalidBook(NetError):
    """An album is wrong, in the part with this index; as a whole, if the index is None."""

    def __init__(self, index):
        super().__init__("not an album")
        self.index = index


class InvalidLines(NetError):
    """Lines are wrong, from this index on; as a whole, if the index is None."""

    def __init__(self, index):
        super().__init__("not lines that fit")
        self.index = index


class InvalidText(NetError):
    """A text is wrong, at this line; as a whole, if the line is None."""

    def __init__(self, line):
        super().__init__("not a text that can be read")
        self.line = line


class NotHelping(NetError):
    """The net has a weight below 0."""


class NotScaled(NetError):
    """The net has no scales."""


class NothingToUndo(NetError):
    """No change is left that could be undone."""


class NothingToRedo(NetError):
    """No change is left that could be done again."""
