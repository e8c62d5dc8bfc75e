"""Point 11: running picks."""

import random
import unittest

from pipelinecut.runs import run
from pipelinecut.states import begin, can_step, step
from tests.helper import (
    assert_state,
    called,
    greatest_net,
    lone_net,
    random_nets,
    random_picks,
    random_state,
    reference_run,
    sample_net,
)


class RunTest(unittest.TestCase):
    def expect(self, net, state, picks, after, done):
        answer = called(self, run, net, state, picks)
        self.assertIs(type(answer), tuple)
        self.assertEqual(answer, (after, done))
        self.assertIs(type(answer[1]), list)
        self.assertEqual([type(told) for told in answer[1]], [bool] * len(picks))
        assert_state(self, net, answer[0])

    def test_no_picks(self):
        for net in (sample_net(), ([], [[]]), lone_net(("put", 0)), greatest_net()):
            self.expect(net, begin(net), [], begin(net), [])

    def test_in_the_order_of_the_picks(self):
        net = ([(0, 1, 1)], [[("set", 5), ("put", 0)], [("take", 0)]])
        after = ((2, 1), (5, 5), ((),), ((5,),))
        self.expect(net, begin(net), [0, 0, 1], after, [True] * 3)
        after = ((2, 0), (5, 0), ((5,),), ((),))
        self.expect(net, begin(net), [1, 0, 0], after, [False, True, True])
        after = ((2, 1), (5, 5), ((),), ((5,),))
        self.expect(net, begin(net), [0, 1, 0, 1], after, [True, False, True, True])

    def test_pick_of_one_who_is_through_does_nothing(self):
        net = ([], [[("set", 1)], []])
        after = ((1, 0), (1, 0), (), ())
        self.expect(net, begin(net), [0, 0, 1, 0], after, [True, False, False, False])
        self.expect(net, after, [1, 0], after, [False, False])

    def test_pick_of_one_who_waits_does_nothing(self):
        net = ([(0, 1, 1)], [[("put", 0)] * 3, [("add", 0)] * 2])
        state = begin(net)
        self.expect(net, state, [1, 1], state, [False, False])
        self.expect(net, state, [0, 0, 0], ((1, 0), (0, 0), ((0,),), ((),)), [True, False, False])
        after = ((3, 2), (0, 0), ((0,),), ((0, 0),))
        done = [False, True, False, True, True, False, False, True, True, False]
        self.expect(net, state, [1, 0, 0, 1, 0, 0, 0, 1, 0, 1], after, done)

    def test_one_who_waited_steps_when_picked_again(self):
        net = ([(0, 1, 1)], [[("set", -6), ("put", 0)], [("take", 0)]])
        after = ((2, 1), (-6, -6), ((),), ((-6,),))
        self.expect(net, begin(net), [1, 0, 1, 0, 1], after, [False, True, False, True, True])

    def test_from_a_state_that_no_run_comes_to(self):
        net = ([(0, 1, 2)], [[("put", 0)], [("add", 0)]])
        state = ((0, 0), (4, 10), ((1, 2),), ((9,),))
        after = ((1, 1), (4, 11), ((2, 4),), ((9, 1),))
        self.expect(net, state, [0, 1, 0, 1], after, [False, True, True, False])

    def test_pick_by_pick_is_the_same(self):
        dice = random.Random(11)
        for net in random_nets(300, 111):
            state = random_state(net, dice)
            picks = random_picks(net, dice, 30)
            after = state
            done = []
            for who in picks:
                done.append(can_step(net, after, who))
                if done[-1]:
                    after = step(net, after, who)
            self.expect(net, state, picks, after, done)
            first, told = run(net, state, picks[:13])
            second, more = run(net, first, picks[13:])
            self.assertEqual((second, told + more), (after, done))

    def test_from_the_beginning_as_the_reference_has_it(self):
        dice = random.Random(12)
        for net in random_nets(300, 121):
            picks = random_picks(net, dice, 40)
            (places, boxes, held, past), done = called(self, run, net, begin(net), picks)
            wanted, kept, put, gone = reference_run(net, picks)
            self.assertEqual((list(places), list(boxes)), (wanted, kept))
            self.assertEqual([list(out) for out in past], [row[:n] for row, n in zip(put, gone)])
            self.assertEqual([list(row) for row in held], [row[n:] for row, n in zip(put, gone)])
            self.assertEqual(done.count(True), sum(places))

    def test_many_picks(self):
        net = ([(0, 1, 3)], [[("put", 0)] * 200, [("take", 0)] * 200])
        state, done = run(net, begin(net), [0, 1] * 5000)
        self.assertEqual(state, ((200, 200), (0, 0), ((),), ((0,) * 200,)))
        self.assertEqual(done, [True] * 400 + [False] * 9600)


if __name__ == "__main__":
    unittest.main()
