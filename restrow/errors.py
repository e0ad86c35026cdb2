"""The refusals of restrow."""


class RestError(ValueError):
    """Any refusal."""


class NoBases(RestError):
    """What was handed in is no list of bases."""


class NoRow(RestError):
    """What was handed in is no row over the bases."""


class NoNumber(RestError):
    """The row tells no number."""


class NoPlace(RestError):
    """The place is none of the row."""


class NoTurn(RestError):
    """The number can't be turned over the base."""


class OutOfRoom(RestError):
    """The number is below 0, or not below the room."""


class Lost(RestError):
    """No number fits the row that was lost or spoiled."""
