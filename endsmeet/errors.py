"""The errors that the package raises."""


class EndsmeetError(ValueError):
    """Any error of this package."""


class BadSheet(EndsmeetError):
    """A sheet, or what it is to be made of, is not as it must be."""


class BadBlock(EndsmeetError):
    """A block that the sheet does not have."""


class BadKind(EndsmeetError):
    """A kind that the sheet does not have."""


class BadText(EndsmeetError):
    """A text that does not have the form that is asked for."""

    def __init__(self, line, column):
        super().__init__(f"line {line}, column {column} does not fit")
        self.line = line
        self.column = column


class BadRecipe(EndsmeetError):
    """A recipe that is not one of the sheet."""


class BadAmounts(EndsmeetError):
    """Amounts that are not of the sheet, or without a copy where there must be one."""


class BadPiece(EndsmeetError):
    """A piece that is not one, or not one of the sheet."""


class BadLinks(EndsmeetError):
    """Links that cannot be, or do not join all ends."""


class BadPrices(EndsmeetError):
    """Prices that are not for just the blocks of the sheet."""


class BadNumber(EndsmeetError):
    """A number that is not one, or out of its bounds."""


class NotBalanced(EndsmeetError):
    """Amounts without a whole piecing."""


class NotClosed(EndsmeetError):
    """A piece that has free ends."""


class NoFinish(EndsmeetError):
    """A piece that cannot be finished: no tree has a top of this kind."""

    def __init__(self, kind):
        super().__init__(f"there is no tree with a top of kind {kind}")
        self.kind = kind


class Misfitting(EndsmeetError):
    """A recipe with neighbours that do not fit."""


class TooLarge(EndsmeetError):
    """A question that is larger than what is answered."""


class BadChain(EndsmeetError):
    """A chain that is not one of the sheet, or not as it must be."""


class BadWeights(EndsmeetError):
    """Weights that are not for the linear blocks of the sheet."""


class BadFamilies(EndsmeetError):
    """Families that are not ones of one sheet."""


class NoBridge(EndsmeetError):
    """There is no bridge between two kinds."""
