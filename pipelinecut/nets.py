"""Nets of pipes and rows of orders: checked, balanced, widened."""

from pipelinecut.errors import NoOrder, NoPipe

MOST_ROOM = 1000


def checked(net):
    """An equal net of new lists; NoPipe or NoOrder where it is not let by."""
    pipes, rows = net
    for at, pipe in enumerate(pipes):
        # The messages tell places only: Python refuses to write out very long numbers.
        if not _is_pipe(pipe, len(rows)):
            raise NoPipe(f"pipe {at} has a wrong maker, taker or room")
    for who, row in enumerate(rows):
        for at, order in enumerate(row):
            if not _is_order(order, pipes, who):
                raise NoOrder(f"worker {who} cannot be given the order at place {at}")
    return _copied(pipes, rows)


def balanced(net):
    """Whether each pipe has as many puts as takes and adds together."""
    pipes, rows = net
    surplus = [0] * len(pipes)
    for row in rows:
        for word, number in row:
            if word == "put":
                surplus[number] += 1
            elif word != "set":
                surplus[number] -= 1
    return not any(surplus)


def widened(net, more):
    """The net with so much more room in each pipe, but with 1000 at most."""
    pipes, rows = net
    wider = [(maker, taker, min(room + more, MOST_ROOM)) for maker, taker, room in pipes]
    return _copied(wider, rows)


def _copied(pipes, rows):
    """A net of new lists, so that a change of the one leaves the other as it is."""
    return list(pipes), [list(row) for row in rows]


def _is_pipe(pipe, workers):
    """Whether both ends of the pipe are workers and its room is within the bounds."""
    maker, taker, room = pipe
    return 0 <= maker < workers and 0 <= taker < workers and 1 <= room <= MOST_ROOM


def _is_order(order, pipes, who):
    """Whether the order has a known word, speaks of a pipe, and is this worker's."""
    word, number = order
    if word == "set":
        return True
    if word not in ("put", "take", "add"):
        return False
    # A number below nought would be read as an index from the list's end.
    if not 0 <= number < len(pipes):
        return False
    maker, taker, _ = pipes[number]
    if word == "put":
        return who == maker
    return who == taker
