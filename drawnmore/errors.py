"""All errors of the package.

Messages never show what was given: it may be anything, also an integer
that Python does not write out.
"""


class WrongValue(ValueError):
    """An argument is not of the kind or form that is asked for."""


class InvalidText(WrongValue):
    """Not the text of a row."""

    def __init__(self, given):
        super().__init__("not the text of a row")
        self.given = given


class InvalidName(WrongValue):
    """Not a name."""

    def __init__(self, given):
        super().__init__("not a name")
        self.given = given


class InvalidIndex(WrongValue):
    """Not the index of a wish."""

    def __init__(self, given):
        super().__init__("not the index of a wish")
        self.given = given


class InvalidNumber(WrongValue):
    """Not an integer within the bounds that hold here."""

    def __init__(self, given):
        super().__init__("not an integer within the bounds")
        self.given = given


class InvalidChance(WrongValue):
    """Not a chance, not shares, or not the outcome of a draw."""

    def __init__(self, given):
        super().__init__("not a chance, shares or an outcome")
        self.given = given


class InvalidWish(WrongValue):
    """Not a wish."""

    def __init__(self, given):
        super().__init__("not a wish")
        self.given = given


class NotRow(WrongValue):
    """Not a row."""

    def __init__(self, given):
        super().__init__("not a row")
        self.given = given


class InvalidCounts(WrongValue):
    """Not the counts of a row."""

    def __init__(self, index):
        super().__init__("not the counts of a row")
        self.index = index


class InvalidRows(WrongValue):
    """Not rows that can be mixed."""

    def __init__(self, index):
        super().__init__("not rows of as many draws")
        self.index = index


class InvalidUrns(WrongValue):
    """Not a lot of urns."""

    def __init__(self, index):
        super().__init__("not a lot of urns")
        self.index = index


class InvalidChanges(WrongValue):
    """Not changes of a row."""

    def __init__(self, index):
        super().__init__("not changes of the row")
        self.index = index


class InvalidWishes(WrongValue):
    """Not wishes."""

    def __init__(self, index):
        super().__init__("not wishes")
        self.index = index


class WrongName(LookupError):
    """A name cannot be used so."""


class UnknownName(WrongName):
    """There is no such name."""

    def __init__(self, given):
        super().__init__("there is no such name")
        self.given = given


class InUse(WrongName):
    """A wish needs the name."""

    def __init__(self, index):
        super().__init__("a wish needs the name")
        self.index = index


class NotPossible(ArithmeticError):
    """The arguments are right, but there is no answer to them."""


class NoUrns(NotPossible):
    """The row does not come of the slips."""


class NoChance(NotPossible):
    """What is asked about has no chance."""


class OtherDraws(NotPossible):
    """The other row has another number of draws."""

    def __init__(self, given):
        super().__init__("the other row has another number of draws")
        self.given = given


class NoMore(NotPossible):
    """All draws are noted."""


class NothingToUndo(NotPossible):
    """There is nothing that can be taken back."""


class Broken(NotPossible):
    """A wish would not hold."""

    def __init__(self, index):
        super().__init__("a wish would not hold")
        self.index = index
