"""The errors of the package, each of its own class under FaceError.

The messages do not show what was passed: Python does not write out whole numbers of any length.
"""


class FaceError(ValueError):
    """The base of all errors of this package."""


class InvalidForm(FaceError):
    """What was passed is no form, or has not as many rows as the form beside it."""

    def __init__(self, given):
        FaceError.__init__(self, "this is no form that fits")
        self.given = given


class InvalidNumber(FaceError):
    """What was passed is no number of the kind that is asked for."""

    def __init__(self, given):
        FaceError.__init__(self, "this is no number of the kind that is asked for")
        self.given = given


class InvalidRoom(FaceError):
    """What was passed is no room, or has another number of unknowns."""

    def __init__(self, given):
        FaceError.__init__(self, "this is no room that fits")
        self.given = given


class InvalidQuadratic(FaceError):
    """What was passed is no quadratic."""

    def __init__(self, given):
        FaceError.__init__(self, "this is no quadratic")
        self.given = given


class InvalidWeb(FaceError):
    """What was passed is no web."""

    def __init__(self, given):
        FaceError.__init__(self, "this is no web")
        self.given = given


class InvalidGame(FaceError):
    """What was passed is no table of as many rows as numbers in each."""

    def __init__(self, given):
        FaceError.__init__(self, "this is no table of a game")
        self.given = given


class InvalidRow(FaceError):
    """An element is wrong in a row; the index is None if the row itself is."""

    def __init__(self, index):
        FaceError.__init__(self, "this is no row of the kind that is asked for")
        self.index = index


class InvalidLot(FaceError):
    """An element is wrong in a lot; the index is None if the lot itself is."""

    def __init__(self, index):
        FaceError.__init__(self, "this is no lot of places")
        self.index = index


class InvalidShares(FaceError):
    """An element is wrong in shares; the index is None if the shares themselves are."""

    def __init__(self, index):
        FaceError.__init__(self, "these are no shares")
        self.index = index


class InvalidEdges(FaceError):
    """An element is wrong in edges; the index is None if the edges themselves are."""

    def __init__(self, index):
        FaceError.__init__(self, "these are no edges")
        self.index = index


class NotAbove(FaceError):
    """Something is not above 0 that has to be."""


class EmptyRoom(FaceError):
    """The room has no place."""


class NotInRoom(FaceError):
    """The place is not in the room."""


class Endless(FaceError):
    """The worths go on beyond all bounds in the room."""


class LikeMixes(FaceError):
    """Both mixes are the same."""
