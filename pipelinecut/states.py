"""States of a net: the beginning, who is through, who waits, and one step."""

from pipelinecut.errors import HasToWait, IsThrough, NoWorker


def begin(net):
    """The state in which nothing is done yet: all is nought or empty."""
    pipes, rows = net
    noughts = (0,) * len(rows)
    empty = ((),) * len(pipes)
    return noughts, noughts, empty, empty


def is_through(net, state, who):
    """Whether the worker has done all of its row."""
    _require_worker(net, who)
    _, rows = net
    places, _, _, _ = state
    return places[who] >= len(rows[who])


def can_step(net, state, who):
    """Whether the worker is neither through nor waiting."""
    return not is_through(net, state, who) and wait_of(net, state, who) is None


def wait_of(net, state, who):
    """The pipe at which the worker waits and the worker for whom; None where it does not."""
    if is_through(net, state, who):
        return None
    word, number = _next_order(net, state, who)
    if word == "set":
        return None
    pipes, _ = net
    _, _, held, _ = state
    maker, taker, room = pipes[number]
    many = len(held[number])
    if word == "put":
        return (number, taker) if many >= room else None
    return (number, maker) if many == 0 else None


def step(net, state, who):
    """The state behind the worker's step; IsThrough or HasToWait where it has none to do."""
    if is_through(net, state, who):
        raise IsThrough(f"worker {who} has done all of its row")
    if wait_of(net, state, who) is not None:
        raise HasToWait(f"worker {who} waits at a pipe")
    word, number = _next_order(net, state, who)
    places, boxes, held, past = state
    places = _replaced(places, who, places[who] + 1)
    if word == "set":
        return places, _replaced(boxes, who, number), held, past
    box = boxes[who]
    numbers = held[number]
    if word == "put":
        return places, boxes, _replaced(held, number, numbers + (box,)), past
    oldest = numbers[0]
    box = oldest if word == "take" else box + oldest
    boxes = _replaced(boxes, who, box)
    held = _replaced(held, number, numbers[1:])
    past = _replaced(past, number, past[number] + (oldest,))
    return places, boxes, held, past


def _require_worker(net, who):
    """NoWorker where the number is no worker of the net."""
    _, rows = net
    # A number below nought would be read as an index from the list's end.
    if not 0 <= who < len(rows):
        # The message leaves the number out: Python refuses to write out very long ones.
        raise NoWorker(f"workers are numbered from 0 to {len(rows) - 1}")


def _next_order(net, state, who):
    """The order at the place of a worker who is not through."""
    _, rows = net
    places, _, _, _ = state
    return rows[who][places[who]]


def _replaced(items, at, item):
    """The tuple with this item at this place."""
    return items[:at] + (item,) + items[at + 1:]
