"""Nets for the tests, each made anew at every call, and what many tests check."""

from copy import deepcopy

from pipelinecut import errors
from pipelinecut.nets import checked

SIXTY_NINES = 10 ** 60 - 1
FAR = 10 ** 40

REFUSALS = (
    errors.NoPipe,
    errors.NoOrder,
    errors.NoWorker,
    errors.IsThrough,
    errors.HasToWait,
    errors.BadNote,
)


def sample_net():
    """Three workers, four pipes, every word, balanced."""
    pipes = [(0, 1, 1), (1, 2, 5), (2, 0, 1000), (1, 1, 7)]
    rows = [
        [("set", 3), ("put", 0), ("take", 2), ("set", -4), ("put", 0)],
        [("take", 0), ("put", 1), ("add", 0), ("put", 3), ("take", 3)],
        [("set", SIXTY_NINES), ("add", 1), ("put", 2)],
    ]
    return pipes, rows


def lone_net(*row):
    """One worker with this row, who is maker and taker of two pipes."""
    return [(0, 0, 1), (0, 0, 1)], [list(row)]


def orders_of(who, pipes):
    """Every order on pipes that this worker may be given."""
    orders = []
    for number, (maker, taker, _) in enumerate(pipes):
        if who == maker:
            orders.append(("put", number))
        if who == taker:
            orders.extend([("take", number), ("add", number)])
    return orders


def greatest_net(workers=20, many=60, length=200):
    """A net of so many workers, pipes and orders a row; rooms from 1 to 1000."""
    pipes = []
    for number in range(many):
        room = 1 + number * 999 // (many - 1)
        pipes.append((number % workers, (number * 7 + 3) % workers, room))
    rows = []
    for who in range(workers):
        orders = orders_of(who, pipes) + [("set", SIXTY_NINES), ("set", -SIXTY_NINES)]
        rows.append([orders[at % len(orders)] for at in range(length)])
    return pipes, rows


def own_net(*rows):
    """A net in which each worker has one pipe to itself, its number the worker's."""
    return [(who, who, 3) for who in range(len(rows))], [list(row) for row in rows]


def assert_kinds(case, net):
    """A net is a tuple of two lists, pipes and orders are tuples, rows are lists."""
    case.assertIs(type(net), tuple)
    case.assertEqual(len(net), 2)
    pipes, rows = net
    case.assertIs(type(pipes), list)
    case.assertIs(type(rows), list)
    for pipe in pipes:
        case.assertIs(type(pipe), tuple)
        case.assertEqual([type(number) for number in pipe], [int, int, int])
    for row in rows:
        case.assertIs(type(row), list)
        for order in row:
            case.assertIs(type(order), tuple)
            case.assertEqual([type(part) for part in order], [str, int])


def assert_let_by(case, net):
    """The net is let by, as an equal net of the right kinds, and stays as it was."""
    before = deepcopy(net)
    answer = checked(net)
    case.assertEqual(answer, before)
    case.assertEqual(net, before)
    assert_kinds(case, answer)


def assert_refused(case, refusal, net):
    """The net is refused with this error and with no other, and stays as it was."""
    before = deepcopy(net)
    with case.assertRaises(errors.NetError) as caught:
        checked(net)
    case.assertIsInstance(caught.exception, ValueError)
    kinds = [kind for kind in REFUSALS if isinstance(caught.exception, kind)]
    case.assertEqual(kinds, [refusal])
    case.assertEqual(net, before)
