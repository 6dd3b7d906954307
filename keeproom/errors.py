"""The errors that the program raises."""


class KeeproomError(ValueError):
    """The base class of all errors that the program raises."""


class PlantError(KeeproomError):
    """A plant is refused: `what` tells why, `at` where."""

    def __init__(self, what, at):
        super().__init__(f"the plant is refused: {what} {at}")
        self.what = what
        self.at = at


class RowError(KeeproomError):
    """The element `at` of a row has no name of the plant or no text of a number."""

    def __init__(self, at):
        super().__init__(f"not a record of the plant: element {at} of the row")
        self.at = at


class JournalError(KeeproomError):
    """A journal is refused: `what` tells why, `at` at which line or event."""

    def __init__(self, what, at):
        super().__init__(f"the journal is refused: {what} {at}")
        self.what = what
        self.at = at


class OrdersError(KeeproomError):
    """Orders are not strictly ascending, or have a device or a question that there is not."""


class NothingPossible(KeeproomError):
    """No assumed device is possible."""


class CannotKeep(KeeproomError):
    """The node is not one of the room's."""


class CanKeep(KeeproomError):
    """The node is one of the room's, so there are no others against whom no room keeps the orders."""


class NotItsTurn(KeeproomError):
    """A move is asked for while it is the other side's turn."""


class JournalFull(KeeproomError):
    """A room has as many events as it may have."""


class Resumed(KeeproomError):
    """The journal of a room that was resumed is asked for."""


class PapersError(KeeproomError):
    """Papers that do not hold, or that are not of the arena's length, are to be trusted."""


class KeptError(KeeproomError):
    """What is said to be kept by a room can be kept by no room of the plant."""


class NoSuch(KeeproomError):
    """There is no such device or question."""
