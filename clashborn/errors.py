"""All errors of the package, in their families."""


class BornError(ValueError):
    """The base of all errors of the package."""


class PaperError(BornError):
    """A paper does not hold."""


class HouseError(BornError):
    """A house, or what is asked of it, does not allow an answer."""


class LiveError(BornError):
    """A live house can not do what it is told."""


class TextError(BornError):
    """A text can not be read."""


class InvalidPaper(PaperError):
    """The entry word of a checker's list applies, at the place at."""

    def __init__(self, word, at):
        self.word = word
        self.at = at


class NotUsable(HouseError):
    """The parameter called word is not as stated, at the place at if that is not -1."""

    def __init__(self, word, at):
        self.word = word
        self.at = at


class Odd(HouseError):
    """The lot is odd where it had to be even."""

    def __init__(self, lot):
        self.lot = lot


class Unlike(HouseError):
    """A piece is of this kind, and not of the one that was needed."""

    def __init__(self, kind):
        self.kind = kind


class Ringed(HouseError):
    """The word clashes with the sum of this ring, and so has no coins."""

    def __init__(self, lot):
        self.lot = lot


class Refused(HouseError):
    """A word does not come; the paper shows why."""

    def __init__(self, paper):
        self.paper = paper


class Shared(HouseError):
    """The pieces share at this one."""

    def __init__(self, piece):
        self.piece = piece


class InvalidEvent(LiveError):
    """The event is not let, for this reason."""

    def __init__(self, event, reason):
        self.event = event
        self.reason = reason


class NothingToUndo(LiveError):
    """The log has fewer events than these steps."""

    def __init__(self, steps):
        self.steps = steps


class InvalidText(TextError):
    """This field of this line can not stand there."""

    def __init__(self, line, field):
        self.line = line
        self.field = field
