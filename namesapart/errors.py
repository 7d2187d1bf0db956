"""All errors of the package."""


class ApartError(ValueError):
    """The base of all errors of this package."""


class InvalidTree(ApartError):
    """What should be a tree, or should become one, is none."""


class InvalidText(ApartError):
    """What should be the text of a tree is none."""


class InvalidWork(ApartError):
    """What should be a work is none."""


class InvalidPath(ApartError):
    """What should be a path leads nowhere, or to the wrong thing."""


class InvalidName(ApartError):
    """What should be a name is none."""


class InvalidOrder(ApartError):
    """What should be an order of paths is none."""


class InvalidProgram(ApartError):
    """A tree that should be a program is none."""


class InvalidNumber(ApartError):
    """What should be an integer within bounds is none."""


class InvalidLotted(ApartError):
    """What should be a lotted tree is none."""


class InvalidLotWork(ApartError):
    """What should be a lot work is none."""


class InvalidManner(ApartError):
    """What should be a manner is none."""


class InvalidPattern(ApartError):
    """What should be a wide pattern is none."""


class InvalidRow(ApartError):
    """What should be a row is none."""


class InvalidRows(ApartError):
    """What should be rows is none."""


class InvalidPieces(ApartError):
    """What should be pieces is none."""


class NotTaken(ApartError):
    """A pattern does not take the pieces that it should."""


class InvalidWord(ApartError):
    """What should be a word is none."""


class InvalidStaged(ApartError):
    """What should be a staged program is none."""


class InvalidTable(ApartError):
    """What should be a table is none."""


class InvalidShelf(ApartError):
    """What should be a shelf is none."""


class InvalidModule(ApartError):
    """What should be a module on a shelf is none."""


class InvalidPlaceOrder(ApartError):
    """What should be an order of places is none."""


class InvalidCode(ApartError):
    """What should be a code is none."""


class InvalidStep(ApartError):
    """What should be a step that can be done is none."""


class InvalidStore(ApartError):
    """What should be a store is none."""


class InvalidDeed(ApartError):
    """What should be a deed is none."""


class InvalidDeeds(ApartError):
    """What should be a train of deeds is none."""


class InvalidWords(ApartError):
    """What should be a tuple of words is none."""


class InvalidLot(ApartError):
    """What should be a lot of library words is none."""


class InvalidJourney(ApartError):
    """What should be a journey is none."""


class InvalidStops(ApartError):
    """What should be stops is none."""


class CannotMake(ApartError):
    """No outermost use that would be made stands at a path."""


class NothingToUndo(ApartError):
    """No call is left that could be taken back."""


class NothingToRedo(ApartError):
    """No call is left that could be done again."""


class Hindered(ApartError):
    """A goal is hindered by what the attribute tells."""

    def __init__(self, what):
        self.what = what


class TooMany(ApartError):
    """There is more of something than the limit lets be."""

    def __init__(self, limit):
        self.limit = limit
