"""The refusals of the package: each one stands under FloorError alone."""


class FloorError(ValueError):
    """Any refusal."""


class BadFloor(FloorError):
    """Cells that are no floor; why is "many", "cell", "twice" or "rim"."""

    def __init__(self, why):
        super().__init__(f"no floor: {why}")
        self.why = why


class BadPieces(FloorError):
    """Lists that are no pieces: the first bad one's number, and a word."""

    def __init__(self, at, why):
        super().__init__(f"no pieces: {why}, at {at}")
        self.at = at
        self.why = why


class BadPair(FloorError):
    """Two orders that are no pair, or a bad number of points."""


class BadBox(FloorError):
    """A box that is too small or too large for the floor."""


class NoSeam(FloorError):
    """A corner that is not the rim's, or two rims without a seam."""


class NoTurn(FloorError):
    """What is no laying, or a corner at which nothing can be turned."""


class BadText(FloorError):
    """A text that draws nothing; row is the number of the first bad row."""

    def __init__(self, row):
        super().__init__(f"no drawing: row {row}")
        self.row = row
