"""Points 8 and 14: who is through, who waits and for whom, who can step."""

import random
import unittest

from pipelinecut.states import begin, can_step, is_through, wait_of
from tests.helper import called, lone_net, random_nets, random_state


class WaitsTest(unittest.TestCase):
    def expect(self, net, state, who, through, can, wait):
        self.assertIs(called(self, is_through, net, state, who), through)
        self.assertIs(called(self, can_step, net, state, who), can)
        answer = called(self, wait_of, net, state, who)
        self.assertEqual(answer, wait)
        if wait is not None:
            self.assertIs(type(answer), tuple)
            self.assertEqual([type(number) for number in answer], [int, int])

    def expect_through(self, net, state, who):
        self.expect(net, state, who, True, False, None)

    def expect_can(self, net, state, who):
        self.expect(net, state, who, False, True, None)

    def expect_waits(self, net, state, who, wait):
        self.expect(net, state, who, False, False, wait)

    def test_empty_row_is_through(self):
        self.expect_through(([], [[]]), begin(([], [[]])), 0)
        net = ([(0, 1, 1)], [[], [("take", 0)], []])
        self.expect_through(net, begin(net), 0)
        self.expect_waits(net, begin(net), 1, (0, 0))
        self.expect_through(net, begin(net), 2)

    def test_through_behind_the_last_order_alone(self):
        net = ([], [[("set", 1), ("set", 2), ("set", 3)]])
        for place in range(3):
            self.expect_can(net, ((place,), (0,), (), ()), 0)
        self.expect_through(net, ((3,), (0,), (), ()), 0)

    def test_through_whatever_the_last_order_and_the_pipes(self):
        for word in ("set", "put", "take", "add"):
            for held in ((), (1,)):
                net = ([(0, 0, 1)], [[(word, 0)]])
                self.expect_through(net, ((1,), (0,), (held,), ((),)), 0)

    def test_set_always_can(self):
        for held in ((), (1,)):
            for number in (0, 1, -1):
                net = ([(0, 0, 1)], [[("set", number), ("put", 0)]])
                self.expect_can(net, ((0,), (0,), (held,), ((),)), 0)

    def test_put_waits_at_a_full_pipe_alone(self):
        for room in (1, 2, 3, 7, 1000):
            net = ([(1, 0, room)], [[], [("put", 0)]])
            for many in sorted({0, 1, room - 2, room - 1} & set(range(room))):
                self.expect_can(net, ((0, 0), (0, 0), ((0,) * many,), ((),)), 1)
            self.expect_waits(net, ((0, 0), (0, 0), ((0,) * room,), ((),)), 1, (0, 0))

    def test_put_into_an_overfull_pipe_waits(self):
        net = ([(1, 0, 2)], [[], [("put", 0)]])
        self.expect_waits(net, ((0, 0), (0, 0), ((0,) * 3,), ((),)), 1, (0, 0))

    def test_take_and_add_wait_at_an_empty_pipe_alone(self):
        for word in ("take", "add"):
            for room in (1, 2, 1000):
                net = ([(1, 0, room)], [[(word, 0)], []])
                self.expect_waits(net, ((0, 0), (0, 0), ((),), ((),)), 0, (0, 1))
                self.expect_waits(net, ((0, 0), (0, 0), ((),), ((1, 2),)), 0, (0, 1))
                self.expect_can(net, ((0, 0), (0, 0), ((0,),), ((),)), 0)
                self.expect_can(net, ((0, 0), (0, 0), ((0,) * room,), ((),)), 0)

    def test_one_who_is_maker_and_taker_waits_for_itself(self):
        full = ((0,), (0,), ((), (1,)), ((), ()))
        self.expect_waits(lone_net(("put", 1)), full, 0, (1, 0))
        self.expect_can(lone_net(("put", 0)), full, 0)
        for word in ("take", "add"):
            self.expect_waits(lone_net((word, 0)), full, 0, (0, 0))
            self.expect_can(lone_net((word, 1)), full, 0)

    def test_each_waits_at_its_own_pipe_for_its_other_end(self):
        pipes = [(0, 3, 1), (1, 2, 2), (2, 0, 1), (3, 1, 2), (3, 3, 1)]
        rows = [[("put", 0)], [("put", 1)], [("take", 1)], [("add", 4)]]
        net = (pipes, rows)
        empty = ((0,) * 4, (0,) * 4, ((),) * 5, ((),) * 5)
        self.expect_can(net, empty, 0)
        self.expect_can(net, empty, 1)
        self.expect_waits(net, empty, 2, (1, 1))
        self.expect_waits(net, empty, 3, (4, 3))
        full = ((0,) * 4, (0,) * 4, ((5,), (5, 5), (5,), (5, 5), (5,)), ((),) * 5)
        self.expect_waits(net, full, 0, (0, 3))
        self.expect_waits(net, full, 1, (1, 2))
        self.expect_can(net, full, 2)
        self.expect_can(net, full, 3)

    def test_next_order_is_the_one_at_the_place(self):
        net = ([(0, 0, 1), (0, 0, 1)], [[("take", 0), ("put", 1), ("set", 1), ("add", 1)]])
        held = ((), (4,))
        self.expect_waits(net, ((0,), (0,), held, ((), ())), 0, (0, 0))
        self.expect_waits(net, ((1,), (0,), held, ((), ())), 0, (1, 0))
        self.expect_can(net, ((2,), (0,), held, ((), ())), 0)
        self.expect_can(net, ((3,), (0,), held, ((), ())), 0)
        self.expect_through(net, ((4,), (0,), held, ((), ())), 0)

    def test_set_of_a_number_that_is_a_full_or_empty_pipe(self):
        net = lone_net(("set", 0), ("set", 1))
        for place in (0, 1):
            self.expect_can(net, ((place,), (0,), ((), (3,)), ((), ())), 0)

    def test_last_of_20_workers_at_the_last_of_60_pipes(self):
        pipes = [(0, 0, 1)] * 59 + [(18, 19, 1000)]
        rows = [[] for _ in range(18)] + [[("put", 59)], [("take", 59)]]
        held = ((),) * 59
        empty = ((0,) * 20, (0,) * 20, held + ((),), ((),) * 60)
        self.expect_can((pipes, rows), empty, 18)
        self.expect_waits((pipes, rows), empty, 19, (59, 18))
        full = ((0,) * 20, (0,) * 20, held + ((1,) * 1000,), ((),) * 60)
        self.expect_waits((pipes, rows), full, 18, (59, 19))
        self.expect_can((pipes, rows), full, 19)

    def test_any_state(self):
        dice = random.Random(8)
        for pipes, rows in random_nets(400, 81):
            state = random_state((pipes, rows), dice)
            places, _, held, _ = state
            for who, row in enumerate(rows):
                if places[who] == len(row):
                    self.expect_through((pipes, rows), state, who)
                    continue
                word, number = row[places[who]]
                if word == "put" and len(held[number]) == pipes[number][2]:
                    self.expect_waits((pipes, rows), state, who, (number, pipes[number][1]))
                elif word in ("take", "add") and held[number] == ():
                    self.expect_waits((pipes, rows), state, who, (number, pipes[number][0]))
                else:
                    self.expect_can((pipes, rows), state, who)


if __name__ == "__main__":
    unittest.main()
