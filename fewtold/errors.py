"""The errors of the package.

No message tells a value: a value may be anything, and a number too long to write.
"""


class FewError(ValueError):
    """What all errors of the package stand under."""


class InvalidCount(FewError):
    """A count that is no whole number from 0 to 8."""

    def __init__(self, given):
        super().__init__("no whole number from 0 to 8")
        self.given = given


class InvalidNumber(FewError):
    """A number of rows that is no whole number from 1 to 6."""

    def __init__(self, given):
        super().__init__("no whole number from 1 to 6")
        self.given = given


class InvalidTable(FewError):
    """A value that is no table."""

    def __init__(self, given):
        super().__init__("no table")
        self.given = given


class InvalidReadings(FewError):
    """A value that is no readings."""

    def __init__(self, given):
        super().__init__("no readings")
        self.given = given


class InvalidRow(FewError):
    """A row, sums or values with a wrong element, or with too many or too few."""

    def __init__(self, index):
        super().__init__("no row of as many fractions as there should be")
        self.index = index


class InvalidAmounts(FewError):
    """Amounts with a wrong element, or with too many or too few."""

    def __init__(self, index):
        super().__init__("no row of as many amounts as there should be")
        self.index = index


class InvalidLot(FewError):
    """A lot with an element that is no index of a column or does not ascend."""

    def __init__(self, index):
        super().__init__("no ascending tuple of indexes of columns")
        self.index = index


class InvalidSigns(FewError):
    """Signs with a wrong element, or with too many or too few."""

    def __init__(self, index):
        super().__init__("no row of as many signs as there should be")
        self.index = index


class InvalidPlaces(FewError):
    """Places that are no 1 to 8 unlike fractions."""

    def __init__(self, index):
        super().__init__("no 1 to 8 unlike fractions")
        self.index = index


class NotDependent(FewError):
    """A row that is no dependence of the table."""


class NoRow(FewError):
    """Sums that no row has."""


class NotBack(FewError):
    """A count that is not given back."""


class NotFree(FewError):
    """A lot whose columns are not free."""
