"""Runs of a net: by picks, until nobody can step, and why a net stands still."""

from pipelinecut.states import can_step, is_through, step, wait_of


def run(net, state, picks):
    """The state behind all picks, and for each pick whether a step was done at it."""
    done = []
    for who in picks:
        # This refuses a number that is no worker; the steps ahead of it leave no trace.
        steps = can_step(net, state, who)
        if steps:
            state = step(net, state, who)
        done.append(steps)
    return state, done


def settled(net, state):
    """The state that comes where workers step until nobody can."""
    who = _least_to_step(net, state)
    while who is not None:
        state = step(net, state, who)
        who = _least_to_step(net, state)
    return state


def stuck(net, state):
    """Why the net stands still; None where somebody can step or all are through."""
    if _least_to_step(net, state) is not None:
        return None
    _, rows = net
    waiting = [who for who in range(len(rows)) if wait_of(net, state, who) is not None]
    if not waiting:
        return None
    return _told_from(net, state, waiting[0])


def _least_to_step(net, state):
    """The least worker who can step, None where nobody can."""
    _, rows = net
    for who in range(len(rows)):
        if can_step(net, state, who):
            return who
    return None


def _told_from(net, state, who):
    """The end or the ring that comes by going from who waits to the one waited for."""
    way = []
    while who not in way:
        way.append(who)
        if is_through(net, state, who):
            return "end", way
        _, who = wait_of(net, state, who)
    return "ring", _begun_with_least(way[way.index(who):])


def _begun_with_least(ring):
    """The same ring in the same order of going, its least worker first."""
    at = ring.index(min(ring))
    return ring[at:] + ring[:at]
