"""The errors of tearwords: one class for each kind of failure."""


class TearError(ValueError):
    """What all errors of this package are."""


class NoMachine(TearError):
    """A value is no machine."""


class NoRule(TearError):
    """A value is no rule, or none of the kind that is asked for."""


class NoWord(TearError):
    """A value is no word, or none that is meant here."""


class NoStretch(TearError):
    """A place and a size tell no stretch of the word."""


class NoReading(TearError):
    """A value is no reading."""


class NoSide(TearError):
    """A value is no side of the machine and the rule."""


class NoCount(TearError):
    """A value is no integer within its bounds."""


class NoHint(TearError):
    """A value is no hint, or no kind of hints."""


class NoCheck(TearError):
    """A value is no check for the machine's letters."""


class NoKind(TearError):
    """A value is no kind."""


class NoDesk(TearError):
    """A value is no desk."""


class NoDeed(TearError):
    """A value is no deed."""


class NoUndo(TearError):
    """There is no deed to be taken back."""


class NoThings(TearError):
    """A value is no list of deeds and such lists."""


class NotThere(TearError):
    """A word is not admitted."""


class Twice(TearError):
    """A word is admitted already."""


class Rivals(TearError):
    """Two admitted words would be confused."""


class TooGreat(TearError):
    """There would be too many words or deeds."""
