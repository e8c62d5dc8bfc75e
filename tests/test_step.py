"""Points 9 and 10: one step of a worker, and steps that are refused."""

import random
import unittest

from pipelinecut.errors import HasToWait, IsThrough
from pipelinecut.states import begin, can_step, is_through, step
from tests.helper import (
    SIXTY_NINES,
    assert_raises_only,
    assert_state,
    called,
    lone_net,
    random_nets,
    random_state,
)

NUMBERS = (0, 1, -1, 7, -7, SIXTY_NINES, -SIXTY_NINES)


class StepTest(unittest.TestCase):
    # Two workers, and pipes between them either way.
    pipes = [(0, 1, 3), (1, 0, 2)]

    def expect(self, net, state, who, after):
        answer = called(self, step, net, state, who)
        self.assertEqual(answer, after)
        assert_state(self, net, answer)

    def test_set(self):
        for number in NUMBERS:
            for box in NUMBERS:
                net = (self.pipes, [[("set", number)], [("set", 5)]])
                before = ((0, 0), (box, 3), ((1,), (2,)), ((4,), ()))
                self.expect(net, before, 0, ((1, 0), (number, 3), ((1,), (2,)), ((4,), ())))

    def test_put_keeps_the_box_and_puts_behind(self):
        net = (self.pipes, [[("put", 0)], [("put", 1)]])
        for box in NUMBERS:
            for numbers in ((), (8,), (8, -8)):
                before = ((0, 0), (box, 3), (numbers, (2,)), ((4,), (6,)))
                after = ((1, 0), (box, 3), (numbers + (box,), (2,)), ((4,), (6,)))
                self.expect(net, before, 0, after)
        before = ((0, 0), (5, 3), ((1,), (2,)), ((4,), (6,)))
        self.expect(net, before, 1, ((0, 1), (5, 3), ((1,), (2, 3)), ((4,), (6,))))

    def test_take_takes_the_oldest_into_the_box(self):
        net = (self.pipes, [[("take", 1)], [("take", 0)]])
        for oldest in NUMBERS:
            for rest in ((), (8,), (8, -8)):
                before = ((0, 0), (5, 3), ((oldest,) + rest, (2,)), ((4, 9), (6,)))
                after = ((0, 1), (5, oldest), (rest, (2,)), ((4, 9, oldest), (6,)))
                self.expect(net, before, 1, after)
        before = ((0, 0), (5, 3), ((1,), (2, 7)), ((), ()))
        self.expect(net, before, 0, ((1, 0), (2, 3), ((1,), (7,)), ((), (2,))))

    def test_add_adds_the_oldest_to_the_box(self):
        net = (self.pipes, [[], [("add", 0)]])
        for oldest in NUMBERS:
            for box in NUMBERS:
                before = ((0, 0), (5, box), ((oldest, 8), (2,)), ((4, 9), (6,)))
                after = ((0, 1), (5, box + oldest), ((8,), (2,)), ((4, 9, oldest), (6,)))
                self.expect(net, before, 1, after)

    def test_sums_beyond_sixty_figures(self):
        net = lone_net(("add", 0))
        before = ((0,), (SIXTY_NINES,), ((SIXTY_NINES,), ()), ((), ()))
        after = ((1,), (2 * SIXTY_NINES,), ((), ()), ((SIXTY_NINES,), ()))
        self.expect(net, before, 0, after)

    def test_past_grows_by_take_and_add_alone(self):
        net = lone_net(("set", 2), ("put", 0), ("set", 3), ("put", 1), ("take", 0), ("add", 1))
        state = begin(net)
        pasts = []
        for _ in range(6):
            state = step(net, state, 0)
            pasts.append(state[3])
        self.assertEqual(pasts, [((), ())] * 4 + [((2,), ()), ((2,), (3,))])
        self.assertEqual(state, ((6,), (5,), ((), ()), ((2,), (3,))))

    def test_pipe_whose_maker_is_its_taker(self):
        net = ([(0, 0, 2)], [[("put", 0), ("put", 0), ("take", 0), ("put", 0), ("add", 0)]])
        state = ((0,), (9,), ((),), ((),))
        for after in (
            ((1,), (9,), ((9,),), ((),)),
            ((2,), (9,), ((9, 9),), ((),)),
            ((3,), (9,), ((9,),), ((9,),)),
            ((4,), (9,), ((9, 9),), ((9,),)),
            ((5,), (18,), ((9,),), ((9, 9),)),
        ):
            self.expect(net, state, 0, after)
            state = after

    def test_the_order_at_the_place_is_done(self):
        net = ([], [[("set", 10), ("set", 11), ("set", 12)]])
        for place in range(3):
            self.expect(net, ((place,), (0,), (), ()), 0, ((place + 1,), (10 + place,), (), ()))

    def test_last_of_20_workers_and_60_pipes(self):
        pipes = [(0, 0, 1)] * 59 + [(19, 18, 1000)]
        rows = [[] for _ in range(18)] + [[("add", 59)], [("put", 59)]]
        before = ((0,) * 20, tuple(range(20)), ((),) * 59 + ((5,) * 999,), ((),) * 60)
        put = (
            (0,) * 19 + (1,), tuple(range(20)), ((),) * 59 + ((5,) * 999 + (19,),), ((),) * 60,
        )
        self.expect((pipes, rows), before, 19, put)
        added = (
            (0,) * 18 + (1, 1),
            tuple(range(18)) + (23, 19),
            ((),) * 59 + ((5,) * 998 + (19,),),
            ((),) * 59 + ((5,),),
        )
        self.expect((pipes, rows), put, 18, added)

    def test_the_old_state_can_be_stepped_from_again(self):
        net = lone_net(("set", 4), ("put", 0))
        state = begin(net)
        self.assertEqual(step(net, state, 0), step(net, state, 0))

    def test_any_state(self):
        dice = random.Random(9)
        for net in random_nets(400, 91):
            state = random_state(net, dice)
            for who in range(len(net[1])):
                if can_step(net, state, who):
                    self.expect(net, state, who, self.stepped(net, state, who))
                else:
                    refusal = IsThrough if is_through(net, state, who) else HasToWait
                    assert_raises_only(self, refusal, step, net, state, who)

    def stepped(self, net, state, who):
        """The state behind the step, told with lists."""
        places, boxes, held, past = [list(part) for part in state]
        word, number = net[1][who][places[who]]
        places[who] += 1
        if word == "set":
            boxes[who] = number
        elif word == "put":
            held[number] += (boxes[who],)
        else:
            oldest, *rest = held[number]
            held[number] = tuple(rest)
            past[number] += (oldest,)
            boxes[who] = oldest if word == "take" else oldest + boxes[who]
        return tuple(places), tuple(boxes), tuple(held), tuple(past)


class RefusedStepTest(unittest.TestCase):
    def test_is_through(self):
        assert_raises_only(self, IsThrough, step, ([], [[]]), begin(([], [[]])), 0)
        net = ([(0, 1, 1)], [[("put", 0)], [("take", 0), ("take", 0)]])
        for held in ((), (3,)):
            assert_raises_only(self, IsThrough, step, net, ((1, 1), (0, 0), (held,), ((),)), 0)
            assert_raises_only(self, IsThrough, step, net, ((0, 2), (0, 0), (held,), ((),)), 1)

    def test_has_to_wait(self):
        net = ([(0, 1, 2)], [[("put", 0)], [("take", 0), ("add", 0)]])
        for place in (0, 1):
            empty = ((0, place), (0, 0), ((),), ((1,),))
            assert_raises_only(self, HasToWait, step, net, empty, 1)
        full = ((0, 0), (0, 0), ((1, 2),), ((),))
        assert_raises_only(self, HasToWait, step, net, full, 0)

    def test_waiting_for_itself(self):
        for word in ("take", "add"):
            net = lone_net((word, 0))
            assert_raises_only(self, HasToWait, step, net, begin(net), 0)
        net = lone_net(("put", 0), ("put", 0))
        assert_raises_only(self, HasToWait, step, net, step(net, begin(net), 0), 0)


if __name__ == "__main__":
    unittest.main()
