"""The errors of the package; most hold in the field `value` what is wrong."""


class ShelfError(ValueError):
    """What all errors of the package are derived from."""


class InvalidBook(ShelfError):
    """Raised for an argument that has to be a book, perhaps one of a shelf, and is none."""

    def __init__(self, value=None):
        self.value = value


class InvalidBooks(ShelfError):
    """Raised for an argument that has to be a list of books and is none."""

    def __init__(self, value=None):
        self.value = value


class InvalidCatalogue(ShelfError):
    """Raised for an argument that has to be a catalogue and is none."""

    def __init__(self, value=None):
        self.value = value


class InvalidCatalogues(ShelfError):
    """Raised for an argument that has to be a list of catalogues and is none."""

    def __init__(self, value=None):
        self.value = value


class InvalidRow(ShelfError):
    """Raised for an argument that has to be a row and is none."""

    def __init__(self, value=None):
        self.value = value


class InvalidShelf(ShelfError):
    """Raised for an argument that has to be a shelf and is none."""

    def __init__(self, value=None):
        self.value = value


class InvalidShelves(ShelfError):
    """Raised for an argument that has to be a list of shelves and is none."""

    def __init__(self, value=None):
        self.value = value


class InvalidRun(ShelfError):
    """Raised for an argument that has to be a run, or what the point wants in its place, and is none."""

    def __init__(self, value=None):
        self.value = value


class InvalidKnot(ShelfError):
    """Raised for an argument that has to be a knot and is none."""

    def __init__(self, value=None):
        self.value = value


class InvalidKind(ShelfError):
    """Raised for an argument that has to be a kind of knots and is none."""

    def __init__(self, value=None):
        self.value = value


class InvalidCore(ShelfError):
    """Raised for an argument that has to be a core and is none."""

    def __init__(self, value=None):
        self.value = value


class InvalidTurns(ShelfError):
    """Raised for an argument that has to be turns and is none."""

    def __init__(self, value=None):
        self.value = value


class InvalidLot(ShelfError):
    """Raised for an argument that has to be a lot and is none."""

    def __init__(self, value=None):
        self.value = value


class InvalidFaces(ShelfError):
    """Raised for an argument that has to be faces and is none."""

    def __init__(self, value=None):
        self.value = value


class InvalidPrices(ShelfError):
    """Raised for an argument that has to be prices and is none."""

    def __init__(self, value=None):
        self.value = value


class InvalidArms(ShelfError):
    """Raised for an argument that has to be a list of barred runs and is none."""

    def __init__(self, value=None):
        self.value = value


class InvalidCount(ShelfError):
    """Raised for an argument that has to be a count, perhaps within bounds that the point tells, and is none."""

    def __init__(self, value=None):
        self.value = value


class InvalidNames(ShelfError):
    """Raised for an argument that has to be new names and is none."""

    def __init__(self, value=None):
        self.value = value


class InvalidChange(ShelfError):
    """Raised for a change that does not fit."""

    def __init__(self, value=None):
        self.value = value


class InvalidChanges(ShelfError):
    """Raised for an argument that has to be a list of changes and is none."""

    def __init__(self, value=None):
        self.value = value


class InvalidHall(ShelfError):
    """Raised for an argument that has to be a hall and is none."""

    def __init__(self, value=None):
        self.value = value


class InvalidSpot(ShelfError):
    """Raised for an argument that has to be a spot of a hall and is none."""

    def __init__(self, value=None):
        self.value = value


class InvalidScript(ShelfError):
    """Raised for an argument that has to be a script and is none."""

    def __init__(self, value=None):
        self.value = value


class InvalidText(ShelfError):
    """Raised for an argument that has to be a text that a writer makes and is none."""

    def __init__(self, value=None):
        self.value = value


class InvalidLog(ShelfError):
    """Raised for an argument that has to be a log and is none."""

    def __init__(self, value=None):
        self.value = value


class Unlike(ShelfError):
    """Raised for a shelf whose catalogue has to be that of an elder one and is not."""

    def __init__(self, value=None):
        self.value = value


class Apart(ShelfError):
    """Raised for a shelf that has to be joined with an elder one and is not."""

    def __init__(self, value=None):
        self.value = value


class Refused(ShelfError):
    """Raised for a command of a hall that cannot be taken, or a part that cannot be put in."""

    def __init__(self, value=None):
        self.value = value


class NothingToUndo(ShelfError):
    """Raised where no command is there that could be taken back."""


class NothingToRedo(ShelfError):
    """Raised where no command is there that could be made again."""
