"""All errors: one base class, five families, and the errors with their fields."""


class OutError(ValueError):
    """The base class of all errors of the package."""


class PaperError(OutError):
    """A paper is not accepted."""


class HouseError(OutError):
    """What was passed in does not suit its house or circle."""


class TillError(OutError):
    """A till cannot be as it was asked for."""


class LiveError(OutError):
    """An office refuses what it is asked to do."""


class TextError(OutError):
    """A text does not tell what it should."""


class InvalidPaper(PaperError):
    """word: the first entry of the checker's list that applies; at: where, or -1."""

    def __init__(self, word, at):
        self.word = word
        self.at = at


class NotUsable(HouseError):
    """word: the name of the parameter; at: which of several arguments, or -1."""

    def __init__(self, word, at):
        self.word = word
        self.at = at


class Unlevel(HouseError):
    """fault: why the lots told are not the free lots of a house."""

    def __init__(self, fault):
        self.fault = fault


class Crowded(HouseError):
    """lot: more wishes than there are slots that suit one of them."""

    def __init__(self, lot):
        self.lot = lot


class Apart(HouseError):
    """lot: a piece that does not have what was asked for."""

    def __init__(self, lot):
        self.lot = lot


class Full(TillError):
    """zone and lot: a piece that leaves nobody out, and its zone, or None."""

    def __init__(self, zone, lot):
        self.zone = zone
        self.lot = lot


class NotSingle(TillError):
    """lot: a full piece that is not single."""

    def __init__(self, lot):
        self.lot = lot


class Uneven(TillError):
    """place: where a mixed difference is not 0."""

    def __init__(self, place):
        self.place = place


class Staying(TillError):
    """people: the persons of a circle that stays."""

    def __init__(self, people):
        self.people = people


class InvalidEvent(LiveError):
    """event: what was refused; reason: the word that says why."""

    def __init__(self, event, reason):
        self.event = event
        self.reason = reason


class NothingToUndo(LiveError):
    """steps: more than the log has events."""

    def __init__(self, steps):
        self.steps = steps


class InvalidText(TextError):
    """line and field: the first place at which the text is not of its form."""

    def __init__(self, line, field):
        self.line = line
        self.field = field


class InvalidRow(TextError):
    """row: what a text tells, if it is of its form only."""

    def __init__(self, row):
        self.row = row
