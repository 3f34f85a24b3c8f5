"""The errors of this package, under three base classes that are not raised themselves."""


class WrongValue(ValueError):
    """A value is not as the document asks for."""


class InvalidText(WrongValue):
    """What was given is not the text of such a thing."""

    def __init__(self, given):
        self.given = given


class InvalidNumber(WrongValue):
    """What was given is no integer within the bounds."""

    def __init__(self, given):
        self.given = given


class InvalidName(WrongValue):
    """What was given is no name."""

    def __init__(self, given):
        self.given = given


class InvalidWish(WrongValue):
    """What was given is no wish."""

    def __init__(self, given):
        self.given = given


class InvalidIndex(WrongValue):
    """What was given is no index of what is asked for."""

    def __init__(self, given):
        self.given = given


class NotARule(WrongValue):
    """What was given is no Rule."""

    def __init__(self, given):
        self.given = given


class NotAPurse(WrongValue):
    """What was given is no Purse."""

    def __init__(self, given):
        self.given = given


class InvalidBands(WrongValue):
    """The element with this index is the first that is no band of a rule."""

    def __init__(self, index):
        self.index = index


class InvalidKinds(WrongValue):
    """The element with this index is the first that is no kind of a purse."""

    def __init__(self, index):
        self.index = index


class InvalidChanges(WrongValue):
    """The element with this index is the first that is no change of a band."""

    def __init__(self, index):
        self.index = index


class WrongName(LookupError):
    """A name stands for nothing."""


class UnknownName(WrongName):
    """Nothing has the name that was given."""

    def __init__(self, given):
        self.given = given


class NoAnswer(ArithmeticError):
    """The values are right, but there is no answer for them."""


class TooMuch(NoAnswer):
    """The number that is given is beyond what can be held."""

    def __init__(self, given):
        self.given = given


class OrderTurned(NoAnswer):
    """A rule leaves more of the income that is given than of the next one."""

    def __init__(self, given):
        self.given = given


class BelowNothing(NoAnswer):
    """The band with the index that is given would leave less than 0 of an income."""

    def __init__(self, given):
        self.given = given


class NothingToUndo(NoAnswer):
    """There is no change that can be taken back."""


class Broken(NoAnswer):
    """The wish with this index is the first that does not hold."""

    def __init__(self, index):
        self.index = index
