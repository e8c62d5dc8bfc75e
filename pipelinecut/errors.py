"""The refusals of the program."""


class NetError(ValueError):
    """Any refusal."""


class NoPipe(NetError):
    """A pipe whose maker or taker is no worker, or whose room is not 1 to 1000."""


class NoOrder(NetError):
    """An order of no known word, of no pipe of the net, or not its worker's to do."""


class NoWorker(NetError):
    """A number that is no worker of the net."""


class IsThrough(NetError):
    """A step asked of a worker who has done all of its row."""


class HasToWait(NetError):
    """A step asked of a worker who waits at a pipe."""


class BadNote(NetError):
    """A text that is not written as a net is."""
