"""Point 7: states, and the one at the beginning."""

import random
import unittest

from pipelinecut.runs import run, settled, stuck
from pipelinecut.states import begin, can_step, is_through, step, wait_of
from tests.helper import (
    SIXTY_NINES,
    assert_state,
    called,
    greatest_net,
    random_nets,
    random_state,
    sample_net,
)


class BeginTest(unittest.TestCase):
    def expect(self, state, net):
        answer = called(self, begin, net)
        self.assertEqual(answer, state)
        assert_state(self, net, answer)

    def test_sample(self):
        self.expect(((0, 0, 0), (0, 0, 0), ((), (), (), ()), ((), (), (), ())), sample_net())

    def test_no_pipes(self):
        self.expect(((0,), (0,), (), ()), ([], [[("set", 5)]]))
        self.expect(((0, 0), (0, 0), (), ()), ([], [[("set", 5)], [("set", -5)]]))

    def test_one_worker(self):
        self.expect(((0,), (0,), ((),), ((),)), ([(0, 0, 1)], [[("put", 0), ("take", 0)]]))

    def test_empty_rows(self):
        self.expect(((0,), (0,), (), ()), ([], [[]]))
        self.expect(((0, 0), (0, 0), ((),), ((),)), ([(0, 1, 1000)], [[], []]))
        self.expect(((0,) * 3, (0,) * 3, (), ()), ([], [[], [("set", 1)], []]))

    def test_20_workers_and_60_pipes(self):
        self.expect(((0,) * 20, (0,) * 20, ((),) * 60, ((),) * 60), greatest_net())
        self.expect(((0,) * 20, (0,) * 20, (), ()), ([], [[]] * 20))
        self.expect(((0,), (0,), ((),) * 60, ((),) * 60), ([(0, 0, 1)] * 60, [[]]))

    def test_every_number_of_workers_and_pipes(self):
        for workers in range(1, 21):
            for many in (0, 1, 2, 19, 20, 21, 60):
                net = ([(workers - 1, 0, 3)] * many, [[] for _ in range(workers)])
                state = ((0,) * workers, (0,) * workers, ((),) * many, ((),) * many)
                self.expect(state, net)

    def test_twice_is_the_same(self):
        net = sample_net()
        self.assertEqual(begin(net), begin(net))


class AnyStateTest(unittest.TestCase):
    """States that no run from the beginning comes to are states as well."""

    net = ([(0, 1, 2)], [[("put", 0), ("put", 0)], [("take", 0), ("set", 4)]])

    def test_pipe_is_full_though_nobody_has_put(self):
        state = ((0, 0), (7, 8), ((1, 2),), ((3,),))
        self.assertEqual(wait_of(self.net, state, 0), (0, 1))
        self.assertEqual(step(self.net, state, 1), ((0, 1), (7, 1), ((2,),), ((3, 1),)))

    def test_pipe_is_empty_though_all_have_put(self):
        state = ((2, 0), (0, 0), ((),), ((),))
        self.assertIs(is_through(self.net, state, 0), True)
        self.assertEqual(wait_of(self.net, state, 1), (0, 0))
        self.assertEqual(stuck(self.net, state), ("end", [1, 0]))

    def test_all_through_with_numbers_anywhere(self):
        state = ((2, 2), (-5, SIXTY_NINES), ((1, 2),), ((9,) * 50,))
        self.assertIsNone(stuck(self.net, state))
        self.assertEqual(settled(self.net, state), state)
        self.assertEqual(run(self.net, state, [0, 1]), (state, [False, False]))

    def test_all_through_at_once_with_empty_rows(self):
        net = ([(0, 1, 3)], [[], []])
        state = ((0, 0), (1, 2), ((3, 4, 5),), ((6,),))
        for who in (0, 1):
            self.assertIs(is_through(net, state, who), True)
            self.assertIs(can_step(net, state, who), False)
        self.assertIsNone(stuck(net, state))
        self.assertEqual(settled(net, state), state)

    def test_step_settled_and_run_give_states(self):
        dice = random.Random(7)
        for net in random_nets(300, 71):
            state = random_state(net, dice)
            assert_state(self, net, state)
            assert_state(self, net, called(self, settled, net, state))
            for who in range(len(net[1])):
                if can_step(net, state, who):
                    assert_state(self, net, called(self, step, net, state, who))


if __name__ == "__main__":
    unittest.main()
