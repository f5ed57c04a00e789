"""The errors of the package: all stand under WeylError alone."""


class WeylError(ValueError):
    """What all errors of the package are."""


class InvalidMatrix(WeylError):
    """The value given is no Cartan matrix."""

    def __init__(self, given):
        self.given = given


class InvalidType(WeylError):
    """The value given is no name of Dynkin types."""

    def __init__(self, given):
        self.given = given


class InvalidVector(WeylError):
    """The value given is no vector for the matrix."""

    def __init__(self, given):
        self.given = given


class InvalidRoot(WeylError):
    """The value given is no root, or not one that is let."""

    def __init__(self, given):
        self.given = given


class InvalidNode(WeylError):
    """The value given is no node of the matrix."""

    def __init__(self, given):
        self.given = given


class InvalidNodes(WeylError):
    """The value given is no ascending tuple of nodes."""

    def __init__(self, given):
        self.given = given


class InvalidWeight(WeylError):
    """The value given is no weight, or not one that is let."""

    def __init__(self, given):
        self.given = given


class InvalidWord(WeylError):
    """The value given is no word of nodes."""

    def __init__(self, given):
        self.given = given


class InvalidSum(WeylError):
    """The value given is no sum of irreducible characters."""

    def __init__(self, given):
        self.given = given


class InvalidTable(WeylError):
    """The value given is no table of weights."""

    def __init__(self, given):
        self.given = given


class InvalidCount(WeylError):
    """The value given is no count that is let."""

    def __init__(self, given):
        self.given = given


class InvalidPath(WeylError):
    """The value given is no path that is let."""

    def __init__(self, given):
        self.given = given


class InvalidExpression(WeylError):
    """The value given is no expression."""

    def __init__(self, given):
        self.given = given


class InvalidDeed(WeylError):
    """The value given is no deed that fits."""

    def __init__(self, given):
        self.given = given


class InvalidBook(WeylError):
    """The value given is no book."""

    def __init__(self, given):
        self.given = given


class NotAlike(WeylError):
    """The table is not alike along the orbit of the weight given."""

    def __init__(self, given):
        self.given = given


class TooMany(WeylError):
    """What was asked for has the size given, which is too great."""

    def __init__(self, given):
        self.given = given


class InvalidLines(WeylError):
    """The line at the index is no string; None: the lines are no tuple that is let."""

    def __init__(self, index):
        self.index = index


class BadText(WeylError):
    """The text cannot be read from the spot on; None: it is no string."""

    def __init__(self, spot):
        self.spot = spot


class NotFinite(WeylError):
    """The matrix is not finite."""


class NothingToUndo(WeylError):
    """The book has no earlier state."""


class NothingToRedo(WeylError):
    """The book has no later state."""


class NoPicture(WeylError):
    """There is no picture for this."""
