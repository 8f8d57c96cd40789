"""The errors of this package: each is a direct subclass of SerialError, its parameters are its attributes."""


class SerialError(Exception):
    """The base class of all errors of this package."""


class BadFormat(SerialError):
    """A part of a format is not as told."""

    def __init__(self, part):
        self.part = part


class BadSheet(SerialError):
    """A part of a sheet is not as told."""

    def __init__(self, part):
        self.part = part


class BadText(SerialError):
    """A text is not one of a format or of a sheet; -1 if it is no string."""

    def __init__(self, place):
        self.place = place


class BadLetters(SerialError):
    """Pairs are none of letters, or would make unlike letters one."""

    def __init__(self, pairs):
        self.pairs = pairs


class NotIn(SerialError):
    """Something is no word of a format."""

    def __init__(self, word):
        self.word = word


class TooLong(SerialError):
    """A word has more letters than can be told."""

    def __init__(self, most):
        self.most = most


class UnlikeRows(SerialError):
    """Two formats do not have equally many words of a length."""

    def __init__(self, length):
        self.length = length


class NoWords(SerialError):
    """A format has no word of a length."""

    def __init__(self, length):
        self.length = length


class Endless(SerialError):
    """A tree does not end."""

    def __init__(self, paper):
        self.paper = paper


class Uneven(SerialError):
    """A tree is not even."""

    def __init__(self, shares):
        self.shares = shares


class BadCode(SerialError):
    """A part of a code is not as told."""

    def __init__(self, part):
        self.part = part


class TwoWays(SerialError):
    """A code is not read in one way."""

    def __init__(self, paper):
        self.paper = paper


class NoMessage(SerialError):
    """Letters are no message that is written."""

    def __init__(self, place):
        self.place = place


class HasBeginnings(SerialError):
    """A word of a code begins with another one."""

    def __init__(self, one, other):
        self.one = one
        self.other = other


class TooMuch(SerialError):
    """Lengths have a share of more than 1."""

    def __init__(self, share):
        self.share = share


class BadLot(SerialError):
    """A part of a lot of lengths is not as told."""

    def __init__(self, part):
        self.part = part


class TooFar(SerialError):
    """Something comes round, or is told, only too far on."""

    def __init__(self, most):
        self.most = most


class TooMany(SerialError):
    """A step is too great."""

    def __init__(self, most):
        self.most = most


class Doubles(SerialError):
    """A format doubles."""

    def __init__(self, paper):
        self.paper = paper


class NotThin(SerialError):
    """A format is not thin."""

    def __init__(self, paper):
        self.paper = paper


class BadName(SerialError):
    """Something is no name of a book."""

    def __init__(self, name):
        self.name = name


class NameTaken(SerialError):
    """There is a book of this name already."""

    def __init__(self, name):
        self.name = name


class NoBook(SerialError):
    """There is no book of this name."""

    def __init__(self, name):
        self.name = name


class NoName(SerialError):
    """No format is kept under this name."""

    def __init__(self, name):
        self.name = name


class NoWordLeft(SerialError):
    """All words that could be issued were issued."""

    def __init__(self, name):
        self.name = name


class IssuedBefore(SerialError):
    """A word was issued before."""

    def __init__(self, word):
        self.word = word


class NotDrawn(SerialError):
    """Tosses draw nothing, or by fewer than all of them."""

    def __init__(self, tosses):
        self.tosses = tosses


class NotInForce(SerialError):
    """Something is no word in force."""

    def __init__(self, word):
        self.word = word


class BadSign(SerialError):
    """Something is no sign of an edit."""

    def __init__(self, sign):
        self.sign = sign


class StillInForce(SerialError):
    """A word in force would be none of the new format."""

    def __init__(self, word):
        self.word = word


class BadDeed(SerialError):
    """A deed of a log is none, or cannot be done."""

    def __init__(self, number):
        self.number = number


class NothingToUndo(SerialError):
    """There is nothing to take back."""


class InvalidCommand(SerialError):
    """Something is no command of the console."""
