"""All errors that the package raises."""


class PieceError(ValueError):
    """A value that was passed is not valid."""


class InvalidText(PieceError):
    """Not a text."""

    def __init__(self, value):
        self.value = value


class InvalidRing(PieceError):
    """Not a ring."""

    def __init__(self, value):
        self.value = value


class InvalidWord(PieceError):
    """Not a word."""

    def __init__(self, value):
        self.value = value


class InvalidSize(PieceError):
    """Not a SIZE."""

    def __init__(self, value):
        self.value = value


class InvalidLot(PieceError):
    """Not a Lot."""

    def __init__(self, value):
        self.value = value


class InvalidPieces(PieceError):
    """Not pieces that make a web."""

    def __init__(self, value):
        self.value = value


class InvalidWeb(PieceError):
    """Not a Web."""

    def __init__(self, value):
        self.value = value


class InvalidPieceWeb(PieceError):
    """Not a PieceWeb."""

    def __init__(self, value):
        self.value = value


class InvalidPlace(PieceError):
    """Not a place of the web."""

    def __init__(self, value):
        self.value = value


class InvalidTie(PieceError):
    """Not the number of a tie of the web."""

    def __init__(self, value):
        self.value = value


class InvalidWalk(PieceError):
    """Not a walk of the web."""

    def __init__(self, value):
        self.value = value


class InvalidRound(PieceError):
    """Not a round of the web."""

    def __init__(self, value):
        self.value = value


class InvalidCounts(PieceError):
    """Not counts for the web."""

    def __init__(self, value):
        self.value = value


class InvalidPrices(PieceError):
    """Not prices for the web."""

    def __init__(self, value):
        self.value = value


class InvalidMany(PieceError):
    """Not a COUNT."""

    def __init__(self, value):
        self.value = value


class BadText(PieceError):
    """Not the text of a lot; the wrong line."""

    def __init__(self, line):
        self.line = line


class InvalidAround(PieceError):
    """Not a road around the walk."""

    def __init__(self, value):
        self.value = value


class InvalidBy(PieceError):
    """Not a number of places to go on by."""

    def __init__(self, value):
        self.value = value


class InvalidClaim(PieceError):
    """Not a claim."""

    def __init__(self, value):
        self.value = value


class InvalidCommand(PieceError):
    """Not a command."""

    def __init__(self, value):
        self.value = value


class InvalidDeeds(PieceError):
    """Not a list of deeds; where the first wrong one is."""

    def __init__(self, position):
        self.position = position


class InvalidFolding(PieceError):
    """Not a Folding."""

    def __init__(self, value):
        self.value = value


class InvalidKeeper(PieceError):
    """Not a Keeper."""

    def __init__(self, value):
        self.value = value


class InvalidLeast(PieceError):
    """Not a least number."""

    def __init__(self, value):
        self.value = value


class InvalidMate(PieceError):
    """Not a mate of the web."""

    def __init__(self, value):
        self.value = value


class InvalidMates(PieceError):
    """Not mates of the web."""

    def __init__(self, value):
        self.value = value


class InvalidPaper(PieceError):
    """Not a paper of the claim."""

    def __init__(self, value):
        self.value = value


class InvalidPart(PieceError):
    """Not a part of the web."""

    def __init__(self, value):
        self.value = value


class InvalidPlaces(PieceError):
    """Not a number of places of a web."""

    def __init__(self, value):
        self.value = value


class InvalidReadings(PieceError):
    """Not readings of a lot."""

    def __init__(self, value):
        self.value = value


class InvalidSort(PieceError):
    """Not the word of a sort."""

    def __init__(self, value):
        self.value = value


class InvalidTexts(PieceError):
    """Not texts for a finder."""

    def __init__(self, value):
        self.value = value


class InvalidThing(PieceError):
    """Not a thing of the sort."""

    def __init__(self, value):
        self.value = value


class InvalidTies(PieceError):
    """Not ties of a web."""

    def __init__(self, value):
        self.value = value


class InvalidTimes(PieceError):
    """Not the times of a reading."""

    def __init__(self, value):
        self.value = value


class InvalidWithout(PieceError):
    """Not numbers of ties of the web."""

    def __init__(self, value):
        self.value = value


class UnreadText(PieceError):
    """Not a written thing; where it cannot be read on."""

    def __init__(self, position):
        self.position = position


class MissingError(LookupError):
    """Something that was asked for is not there."""


class NotRead(MissingError):
    """The text is not read in the lot."""

    def __init__(self, text):
        self.text = text


class UnknownLabel(MissingError):
    """Nothing is noted under the label."""

    def __init__(self, value):
        self.value = value


class UnknownName(MissingError):
    """Nothing is kept under the name."""

    def __init__(self, value):
        self.value = value


class StateError(RuntimeError):
    """What was asked does not go with valid values like these."""


class NotClose(StateError):
    """The web is not close."""


class CommandFailed(StateError):
    """A command of several failed; where it stands."""

    def __init__(self, position):
        self.position = position


class EndlessWalks(StateError):
    """The web is a single ring, so its sure walks have no end."""


class FewTimes(StateError):
    """The text is read less often than it is to be taken."""


class LabelTaken(StateError):
    """Something is noted under the label already."""

    def __init__(self, label):
        self.label = label


class NameTaken(StateError):
    """Something is kept under the name already."""

    def __init__(self, name):
        self.name = name


class NoRing(StateError):
    """The text is the column of no ring."""


class NoRounds(StateError):
    """There is no round that is wanted."""


class NotBubble(StateError):
    """The places are no begin and end of a bubble."""


class NotCounted(StateError):
    """There is no counted round."""


class NothingSolid(StateError):
    """No piece comes often enough."""


class NothingToRedo(StateError):
    """No deed that was undone can be redone."""


class NothingToUndo(StateError):
    """No deed can be undone."""


class UnlikeSizes(StateError):
    """The lots have unlike sizes."""


class LimitError(ArithmeticError):
    """A limit of the package would be passed."""


class TooMany(LimitError):
    """There are more of something than the limit lets."""

    def __init__(self, what, limit):
        self.what = what
        self.limit = limit
