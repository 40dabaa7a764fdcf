"""All errors of the package, directly below PlayError."""


class PlayError(ValueError):
    """What all errors of the package are below."""


class BadAround(PlayError):
    """What is given is no program around pieces: part tells which part of it is wrong."""

    def __init__(self, part):
        super().__init__("What is given is no program around pieces")
        self.part = part


class BadBench(PlayError):
    """What is given is no workbench."""


class BadBook(PlayError):
    """What is given is no book: part tells which part of it is wrong."""

    def __init__(self, part):
        super().__init__("What is given is no book")
        self.part = part


class BadBoxes(PlayError):
    """What is given are no boxes of the piece."""


class BadBytes(PlayError):
    """What is given are no bytes."""


class BadClaims(PlayError):
    """A piece or a function has a claim that can break."""


class BadDeed(PlayError):
    """What is given is no deed."""


class BadDigits(PlayError):
    """What is given are no digits."""


class BadEdit(PlayError):
    """What is given is no edit."""


class BadGivings(PlayError):
    """What is given are no givings for the piece."""


class BadHouse(PlayError):
    """What is given is no house."""


class BadLetter(PlayError):
    """What is given is no letter of the machine."""


class BadLetters(PlayError):
    """What is given are no letters."""


class BadLine(PlayError):
    """A line is wrong: number tells which one."""

    def __init__(self, number):
        super().__init__("A line is wrong")
        self.number = number


class BadLog(PlayError):
    """A log is that of no play: at tells from where on."""

    def __init__(self, at):
        super().__init__("A log is that of no play")
        self.at = at


class BadLot(PlayError):
    """What is given is no lot of entries."""


class BadMachine(PlayError):
    """What is given is no machine: part tells which part of it is wrong."""

    def __init__(self, part):
        super().__init__("What is given is no machine")
        self.part = part


class BadMove(PlayError):
    """What is given is no move, or none that can come."""


class BadNames(PlayError):
    """What is given is no dict from letters of the machine to letters."""


class BadNumber(PlayError):
    """What is given is no number within its bounds: part tells which one."""

    def __init__(self, part):
        super().__init__("What is given is no number within its bounds")
        self.part = part


class BadPiece(PlayError):
    """What is given is no piece, or none that is wanted: part tells why."""

    def __init__(self, part):
        super().__init__("What is given is no piece, or none that is wanted")
        self.part = part


class BadPieces(PlayError):
    """What is given is no list of pieces of one kind."""


class BadPlace(PlayError):
    """What is given is no place of the piece."""


class BadPlaces(PlayError):
    """What is given are no places of claims."""


class BadPlay(PlayError):
    """What is given is no play."""


class BadQuestion(PlayError):
    """What is given is no question."""


class BadRow(PlayError):
    """What is given is no row, or none that is wanted."""


class BadRule(PlayError):
    """What is given is no rule: part tells which part of it is wrong."""

    def __init__(self, part):
        super().__init__("What is given is no rule")
        self.part = part


class BadRules(PlayError):
    """What is given is no list of rules that shorten."""


class BadScribe(PlayError):
    """What is given is no scribe."""


class BadSort(PlayError):
    """What is given is no sort, or no names with sorts."""


class BadStarts(PlayError):
    """What is given is no list of standings."""


class BadTerm(PlayError):
    """What is given is no term: at is the place of the first wrong piece."""

    def __init__(self, at):
        super().__init__("What is given is no term")
        self.at = at


class BadText(PlayError):
    """What is given is no text: at tells how many signs of it are a beginning."""

    def __init__(self, at):
        super().__init__("What is given is no text")
        self.at = at


class BadWord(PlayError):
    """What is given is no word of an entry."""


class BadWords(PlayError):
    """What is given are no words that are wanted."""


class NotLet(PlayError):
    """What is asked for cannot be done: why tells the reason."""

    def __init__(self, why):
        super().__init__("What is asked for cannot be done")
        self.why = why


class TooMany(PlayError):
    """More would be made than most."""

    def __init__(self, most):
        super().__init__("More would be made than most")
        self.most = most
