"""All errors of the package."""


class SetError(ValueError):
    """The base of all errors."""


class SyntaxFault(SetError):
    """A text is no formula; place is where no text can go on, or where more is missing."""

    def __init__(self, place):
        super().__init__(f"the text cannot go on at place {place}")
        self.place = place


class UnknownSymbol(SetError):
    """A font does not have the symbol name."""

    def __init__(self, name):
        super().__init__(f"the font has no symbol {name}")
        self.name = name


class TooLong(SetError):
    """A text has too many characters."""


class TooDeep(SetError):
    """A row is nested in too many others."""


class TooLarge(SetError):
    """A formula has too many items, or its normal text too many characters."""


class BadFont(SetError):
    """These are no symbols and lengths of a font."""


class BadStyle(SetError):
    """This is no style."""


class BadSettings(SetError):
    """These are no settings for breaking into lines."""


class BadBreaks(SetError):
    """These are no breaks of the formula."""


class NoSuchCaret(SetError):
    """The formula has no such caret."""


class CaretsApart(SetError):
    """Two carets are in different rows."""


class CaretsReversed(SetError):
    """The second caret is ahead of the first one in their row."""


class HistoryFull(SetError):
    """No further edit can be kept for undoing."""
