"""The refusals. Each stands straight under LogError, so that catching one never catches another."""


class LogError(ValueError):
    """Any refusal."""


class BadDisk(LogError):
    """No count of blocks that a disk may have."""


class NoBlock(LogError):
    """No place of the disk."""


class BadBlock(LogError):
    """No list of eight words."""


class BadStop(LogError):
    """No count or no part that a stop may have."""


class Stopped(LogError):
    """The disk has stopped."""


class BadRow(LogError):
    """No row."""


class Full(LogError):
    """The row has more blocks than there is room for."""


class Empty(LogError):
    """No row stands."""


class Gone(LogError):
    """The log has gone to another disk."""


class BadOrder(LogError):
    """No order."""
