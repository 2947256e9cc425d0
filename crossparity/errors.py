"""The errors of the package. Each one keeps what it was created with as its attributes."""


class ParityError(ValueError):
    """The base class of all errors of the package."""


class NoGraph(ParityError):
    """The vertices or the edges are not those of a graph; why is "vertices" or "edges"."""

    def __init__(self, why):
        self.why = why


class NoRecord(ParityError):
    """A value is not a record; at is the index of the first wrong item, or -1 if it is not a row."""

    def __init__(self, at):
        self.at = at


class NoCarry(ParityError):
    """A value is not a row of carries; at is the index of the first wrong item, or -1 if it is not a row."""

    def __init__(self, at):
        self.at = at


class NoOrder(ParityError):
    """A value is not an order of the vertices of the graph."""


class NoWitness(ParityError):
    """A record is not a witness."""


class NoDrawing(ParityError):
    """The values are not a drawing; why is "points", "lines" or "position"."""

    def __init__(self, why):
        self.why = why


class NoEdge(ParityError):
    """A value is not an edge that the call can take; edge is that value."""

    def __init__(self, edge):
        self.edge = edge


class NotDrawable(ParityError):
    """No drawing has the record; witness is a witness of this."""

    def __init__(self, witness):
        self.witness = witness


class NoMost(ParityError):
    """A value is not a bound for the fewest odd pairs."""
