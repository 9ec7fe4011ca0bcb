"""The errors of the package: each keeps, in its attribute value, the argument that it refuses."""


class ClubError(ValueError):
    """What all errors of the package are."""

    def __init__(self, value):
        ValueError.__init__(self, value)
        self.value = value


class InvalidLetters(ClubError):
    """A number of letters that is not from 1 to 4."""


class InvalidWalk(ClubError):
    """What is no walk, or none of the letters that go ahead."""


class InvalidWeb(ClubError):
    """What is no web."""


class InvalidNumber(ClubError):
    """An integer out of what is told: a length, a number, times, a step, a room, a place."""


class InvalidWriting(ClubError):
    """What is no writing by so many walks."""


class InvalidShort(ClubError):
    """What is no short writing."""


class InvalidBook(ClubError):
    """What is no book of turns."""


class InvalidWalks(ClubError):
    """What is no tuple of walks for a paper."""


class InvalidSums(ClubError):
    """What is no tuple of sums."""


class InvalidRows(ClubError):
    """What are no rows of sums."""


class InvalidSending(ClubError):
    """What is no sending, or one that loses a walk."""


class Unreadable(ClubError):
    """What is the text of nothing."""


class InvalidCommand(ClubError):
    """What is no line for a desk."""


class Unlike(ClubError):
    """The letters of a second value that are other ones than those of the first."""


class NotWithin(ClubError):
    """What does not lie within a club, or does not make it."""


class OpenDoor(ClubError):
    """A web that has an open door."""


class TooMany(ClubError):
    """A number of rooms that is too great."""


class Nothing(ClubError):
    """There is no deed to undo."""


class NoPart(ClubError):
    """No part stands begun."""


class NotReady(ClubError):
    """There is nothing yet to work on."""
