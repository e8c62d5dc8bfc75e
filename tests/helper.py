"""Nets and states for the tests, made anew at every call, and what many tests check."""

import random
from copy import deepcopy

from pipelinecut import errors
from pipelinecut.nets import checked
from pipelinecut.states import begin, can_step, is_through, step

SIXTY_NINES = 10 ** 60 - 1
FAR = 10 ** 40

REFUSALS = (
    errors.NoPipe,
    errors.NoOrder,
    errors.NoWorker,
    errors.IsThrough,
    errors.HasToWait,
    errors.BadNote,
)


def sample_net():
    """Three workers, four pipes, every word, balanced."""
    pipes = [(0, 1, 1), (1, 2, 5), (2, 0, 1000), (1, 1, 7)]
    rows = [
        [("set", 3), ("put", 0), ("take", 2), ("set", -4), ("put", 0)],
        [("take", 0), ("put", 1), ("add", 0), ("put", 3), ("take", 3)],
        [("set", SIXTY_NINES), ("add", 1), ("put", 2)],
    ]
    return pipes, rows


def lone_net(*row):
    """One worker with this row, who is maker and taker of two pipes."""
    return [(0, 0, 1), (0, 0, 1)], [list(row)]


def orders_of(who, pipes):
    """Every order on pipes that this worker may be given."""
    orders = []
    for number, (maker, taker, _) in enumerate(pipes):
        if who == maker:
            orders.append(("put", number))
        if who == taker:
            orders.extend([("take", number), ("add", number)])
    return orders


def greatest_net(workers=20, many=60, length=200):
    """A net of so many workers, pipes and orders a row; rooms from 1 to 1000."""
    pipes = []
    for number in range(many):
        room = 1 + number * 999 // (many - 1)
        pipes.append((number % workers, (number * 7 + 3) % workers, room))
    rows = []
    for who in range(workers):
        orders = orders_of(who, pipes) + [("set", SIXTY_NINES), ("set", -SIXTY_NINES)]
        rows.append([orders[at % len(orders)] for at in range(length)])
    return pipes, rows


def own_net(*rows):
    """A net in which each worker has one pipe to itself, its number the worker's."""
    return [(who, who, 3) for who in range(len(rows))], [list(row) for row in rows]


def assert_kinds(case, net):
    """A net is a tuple of two lists, pipes and orders are tuples, rows are lists."""
    case.assertIs(type(net), tuple)
    case.assertEqual(len(net), 2)
    pipes, rows = net
    case.assertIs(type(pipes), list)
    case.assertIs(type(rows), list)
    for pipe in pipes:
        case.assertIs(type(pipe), tuple)
        case.assertEqual([type(number) for number in pipe], [int, int, int])
    for row in rows:
        case.assertIs(type(row), list)
        for order in row:
            case.assertIs(type(order), tuple)
            case.assertEqual([type(part) for part in order], [str, int])


def assert_let_by(case, net):
    """The net is let by, as an equal net of the right kinds, and stays as it was."""
    before = deepcopy(net)
    answer = checked(net)
    case.assertEqual(answer, before)
    case.assertEqual(net, before)
    assert_kinds(case, answer)


def assert_refused(case, refusal, net):
    """The net is refused with this error and with no other, and stays as it was."""
    assert_raises_only(case, refusal, checked, net)


def called(case, function, *given):
    """The function's answer; what it is handed is equal to what it was before."""
    before = deepcopy(given)
    answer = function(*given)
    case.assertEqual(given, before)
    return answer


def assert_raises_only(case, refusal, function, *given):
    """The call is refused with this error and no other; what is handed in stays."""
    before = deepcopy(given)
    with case.assertRaises(errors.NetError) as caught:
        function(*given)
    case.assertIsInstance(caught.exception, ValueError)
    kinds = [kind for kind in REFUSALS if isinstance(caught.exception, kind)]
    case.assertEqual(kinds, [refusal])
    case.assertEqual(given, before)


def assert_state(case, net, state):
    """The state is a tuple of four tuples with numbers or tuples of numbers in them."""
    pipes, rows = net
    case.assertIs(type(state), tuple)
    case.assertEqual([type(part) for part in state], [tuple] * 4)
    places, boxes, held, past = state
    case.assertEqual([type(place) for place in places], [int] * len(rows))
    case.assertEqual([type(box) for box in boxes], [int] * len(rows))
    for numbers in (held, past):
        case.assertEqual([type(row) for row in numbers], [tuple] * len(pipes))
        for row in numbers:
            case.assertEqual([type(number) for number in row], [int] * len(row))


def random_nets(many, seed, workers=4, pipes=5, length=8, room=3):
    """So many nets within these bounds, the same ones for the same seed."""
    dice = random.Random(seed)
    for _ in range(many):
        crowd = dice.randint(1, workers)
        pairs = []
        for _ in range(dice.randint(0, pipes)):
            ends = (dice.randrange(crowd), dice.randrange(crowd))
            pairs.append(ends + (dice.randint(1, room),))
        rows = []
        for who in range(crowd):
            orders = orders_of(who, pairs) + [("set", dice.randint(-9, 9))]
            rows.append([dice.choice(orders) for _ in range(dice.randint(0, length))])
        yield pairs, rows


def balanced_nets(many, seed):
    """Random nets with as many puts as takes and adds at each pipe."""
    for pipes, rows in random_nets(many, seed, pipes=4, length=6):
        for number, (maker, taker, _) in enumerate(pipes):
            puts = rows[maker].count(("put", number))
            outs = rows[taker].count(("take", number)) + rows[taker].count(("add", number))
            rows[maker].extend([("put", number)] * (outs - puts))
            rows[taker].extend([("add", number)] * (puts - outs))
        yield pipes, rows


def random_state(net, dice):
    """Any state of the net, also one that no run from the beginning comes to."""
    pipes, rows = net
    places = tuple(dice.randint(0, len(row)) for row in rows)
    boxes = tuple(dice.randint(-99, 99) for _ in rows)
    held = tuple(some_numbers(dice, room) for _, _, room in pipes)
    past = tuple(some_numbers(dice, 3) for _ in pipes)
    return places, boxes, held, past


def some_numbers(dice, most):
    """Up to so many numbers."""
    return tuple(dice.randint(-99, 99) for _ in range(dice.randint(0, most)))


def random_picks(net, dice, many):
    """So many picks of the net's workers."""
    return [dice.randrange(len(net[1])) for _ in range(many)]


def who_can(net, state):
    """All workers who can step."""
    return [who for who in range(len(net[1])) if can_step(net, state, who)]


def all_through(net, state):
    """Whether all workers are through."""
    return all(is_through(net, state, who) for who in range(len(net[1])))


def walk(net, picks):
    """The state that comes of the beginning where the picked step, each one who can."""
    state = begin(net)
    for who in picks:
        if can_step(net, state, who):
            state = step(net, state, who)
    return state


def reference_run(net, picks):
    """Places, boxes, all numbers put into each pipe, and how many are out of it again:
    a run from the beginning without the package, for tests to compare with."""
    pipes, rows = net
    places = [0] * len(rows)
    boxes = [0] * len(rows)
    put = [[] for _ in pipes]
    gone = [0] * len(pipes)
    for who in picks:
        if places[who] == len(rows[who]):
            continue
        word, number = rows[who][places[who]]
        if word == "set":
            boxes[who] = number
        elif word == "put":
            if len(put[number]) - gone[number] == pipes[number][2]:
                continue
            put[number].append(boxes[who])
        else:
            if len(put[number]) == gone[number]:
                continue
            oldest = put[number][gone[number]]
            boxes[who] = oldest if word == "take" else boxes[who] + oldest
            gone[number] += 1
        places[who] += 1
    return places, boxes, put, gone
