"""All errors of the package: each derives directly from QuietError."""


class QuietError(ValueError):
    """What all errors of this package are."""


class BadWorks(QuietError):
    """No works: part is "many", -1 for the rules, or the number of the first wrong rule."""

    def __init__(self, part):
        self.part = part


class NoHouse(QuietError):
    """This is not the number of a house."""


class NoTask(QuietError):
    """This is not a task."""


class NoGiven(QuietError):
    """This is not a tuple of tasks that can be given."""


class NoStanding(QuietError):
    """This is not a standing."""


class NothingThere(QuietError):
    """There is no task to do, or no letter to hear."""


class TooMany(QuietError):
    """There would be more than the most that are told."""

    def __init__(self, most):
        self.most = most


class NoNumber(QuietError):
    """This is not a number that fits here."""


class NoState(QuietError):
    """This is not the state of an end of a link."""


class NoShare(QuietError):
    """This is not a share, or not one that fits here."""


class NoWord(QuietError):
    """This is not a word, or not one that can be heard now."""


class NoSign(QuietError):
    """The house cannot pass the sign now."""


class NoPast(QuietError):
    """This is not the past of a house."""


class NoDeed(QuietError):
    """This is not a deed, or not one that can be done now."""


class NoGlass(QuietError):
    """This is not a glass."""


class NotQuiet(QuietError):
    """The glass is not quiet."""


class NoMove(QuietError):
    """This is not a move that can be next."""


class Broken(QuietError):
    """A sum of the glass does not hold."""


class NoParts(QuietError):
    """These are not the closed parts of a picture."""


class NoFolk(QuietError):
    """This is not the number of one of the folk."""


class NotFree(QuietError):
    """Who should be free waits."""


class NoLot(QuietError):
    """This is not a lot of others."""


class NotAsked(QuietError):
    """There is no ask that waits to be granted."""


class NoLetter(QuietError):
    """There is no letter on its way."""


class IsFree(QuietError):
    """Who should wait is free."""


class BadRecord(QuietError):
    """No record: index is that of the first wrong event, or -1."""

    def __init__(self, index):
        self.index = index


class NoMoment(QuietError):
    """This is not a moment of the record."""


class NoCut(QuietError):
    """This is not a cut."""


class NoOrder(QuietError):
    """This is not an order of the events."""


class NoParcel(QuietError):
    """This is not a parcel."""


class NoRow(QuietError):
    """This is not a row of bytes."""


class BadRow(QuietError):
    """No row of a parcel: place is the first wrong one."""

    def __init__(self, place):
        self.place = place


class NoBlocks(QuietError):
    """These are not blocks."""


class NoDisk(QuietError):
    """This is not a disk, or not one that fits here."""


class OtherHouse(QuietError):
    """The disk is that of another house."""


class BadDeeds(QuietError):
    """No deeds: index is that of the first that cannot be done, or -1."""

    def __init__(self, index):
        self.index = index


class BadText(QuietError):
    """No text of this form: line is the first wrong one, or 0."""

    def __init__(self, line):
        self.line = line


class NoLine(QuietError):
    """This is not a line for a desk."""


class NoName(QuietError):
    """Nothing of this sort is kept under the name."""

    def __init__(self, name):
        self.name = name


class NoEvent(QuietError):
    """This is not an event of these works."""
