"""Points 12, 13, 16 and 17: settled states, what went in comes out, room does no harm."""

import random
import unittest

from pipelinecut.nets import balanced, checked, widened
from pipelinecut.runs import run, settled, stuck
from pipelinecut.states import begin, step
from tests.helper import (
    FAR,
    SIXTY_NINES,
    all_through,
    assert_state,
    balanced_nets,
    called,
    greatest_net,
    random_nets,
    random_picks,
    random_state,
    reference_run,
    sample_net,
    walk,
    who_can,
)


def settled_by(net, state, choose):
    """The state that comes where the one chosen of those who can step steps."""
    workers = who_can(net, state)
    while workers:
        state = step(net, state, choose(workers))
        workers = who_can(net, state)
    return state


def long_chain():
    """20 workers with rows of 200 orders: each adds to what it takes, and puts it on."""
    pipes = [(who, who + 1, 1) for who in range(19)]
    rows = [[("set", 1), ("put", 0)] * 100]
    for who in range(1, 19):
        rows.append([("add", who - 1), ("put", who)] * 100)
    rows.append([("add", 18)] * 100 + [("set", 3)] * 100)
    return pipes, rows


class SettledTest(unittest.TestCase):
    def expect(self, net, state, after):
        answer = called(self, settled, net, state)
        self.assertEqual(answer, after)
        assert_state(self, net, answer)
        self.assertEqual(who_can(net, answer), [])
        self.assertEqual(settled(net, answer), answer)

    def test_sample(self):
        net = sample_net()
        most = SIXTY_NINES + 3
        past = ((3, -4), (3,), (most,), (-1,))
        self.expect(net, begin(net), ((5, 5, 3), (-4, -1, most), ((),) * 4, past))

    def test_nothing_to_do(self):
        for net in (([], [[]]), ([(0, 1, 1)], [[], []])):
            self.expect(net, begin(net), begin(net))

    def test_all_through(self):
        net = ([(0, 1, 1)], [[("set", 2), ("put", 0)] * 3, [("add", 0)] * 3])
        self.expect(net, begin(net), ((6, 3), (2, 6), ((),), ((2, 2, 2),)))

    def test_stops_where_all_wait(self):
        net = ([(0, 1, 2)], [[("put", 0)] * 5, [("set", 1), ("take", 0)]])
        self.expect(net, begin(net), ((3, 2), (0, 0), ((0, 0),), ((0,),)))
        net = ([(0, 1, 2), (1, 0, 2)], [[("take", 1)], [("take", 0)]])
        self.expect(net, begin(net), begin(net))

    def test_from_a_state_that_no_run_comes_to(self):
        net = ([(0, 1, 2)], [[("set", 8), ("put", 0)], [("add", 0)] * 4])
        state = ((1, 1), (5, 100), ((1, 2),), ((7,),))
        self.expect(net, state, ((2, 4), (5, 108), ((),), ((7, 1, 2, 5),)))

    def test_whoever_steps_it_is_the_same_state(self):
        dice = random.Random(13)
        for net in random_nets(300, 131):
            for state in (begin(net), random_state(net, dice)):
                after = settled_by(net, state, min)
                self.expect(net, state, after)
                self.assertEqual(settled_by(net, state, max), after)
                self.assertEqual(settled_by(net, state, dice.choice), after)

    def test_behind_any_picks_it_is_the_same_state(self):
        dice = random.Random(14)
        for net in random_nets(300, 141):
            state = random_state(net, dice)
            after = settled(net, state)
            for many in (1, 5, 40):
                between, _ = run(net, state, random_picks(net, dice, many))
                self.assertEqual(settled(net, between), after)

    def test_long_rows(self):
        net = long_chain()
        self.assertEqual([len(row) for row in net[1]], [200] * 20)
        after = settled(net, begin(net))
        self.assertEqual(after[0], (200,) * 20)
        self.assertEqual(after[3][1], tuple(range(1, 101)))
        self.assertEqual(stuck(net, after), None)
        self.assertEqual(settled(widened(net, 1000), begin(net)), after)

    def test_greatest_net(self):
        net = greatest_net()
        after = settled(net, begin(net))
        self.assertEqual(who_can(net, after), [])
        self.assertEqual(settled_by(net, begin(net), max), after)


class InComesOutTest(unittest.TestCase):
    def expect_what_was_put(self, net, picks):
        _, _, put, _ = reference_run(net, picks)
        for state in (walk(net, picks), run(net, begin(net), picks)[0]):
            _, _, held, past = state
            self.assertEqual([list(out + rest) for out, rest in zip(past, held)], put)

    def test_by_hand(self):
        net = ([(0, 1, 3)], [[("set", 1), ("put", 0), ("set", 2), ("put", 0)], [("take", 0)]])
        state = settled(net, begin(net))
        self.assertEqual((state[3], state[2]), (((1,),), ((2,),)))

    def test_whatever_the_picks(self):
        dice = random.Random(15)
        for net in random_nets(300, 151, length=20):
            for many in (0, 3, 20, 100):
                self.expect_what_was_put(net, random_picks(net, dice, many))

    def test_settled(self):
        for net in random_nets(300, 161):
            picks = list(range(len(net[1]))) * 80
            _, _, put, _ = reference_run(net, picks)
            _, _, held, past = settled(net, begin(net))
            self.assertEqual([list(out + rest) for out, rest in zip(past, held)], put)


class BalancedTest(unittest.TestCase):
    def test_never_stuck_by_an_end_and_empty_where_all_are_through(self):
        seen = {"ring": 0, "through": 0}
        for net in balanced_nets(600, 17):
            self.assertEqual(checked(net), net)
            self.assertIs(balanced(net), True)
            state = settled(net, begin(net))
            why = stuck(net, state)
            if why is None:
                self.assertTrue(all_through(net, state))
                self.assertEqual(state[2], ((),) * len(net[0]))
                seen["through"] += 1
            else:
                self.assertEqual(why[0], "ring")
                seen["ring"] += 1
        self.assertGreater(min(seen.values()), 50)

    def test_net_that_is_not_balanced_may_be_stuck_by_an_end(self):
        net = ([(0, 1, 1)], [[("put", 0)] * 2, []])
        self.assertIs(balanced(net), False)
        self.assertEqual(stuck(net, settled(net, begin(net))), ("end", [0, 1]))


class RoomTest(unittest.TestCase):
    def compare(self, net, more):
        """The settled states of the net and of the wider one; whether they are equal."""
        narrow = settled(net, begin(net))
        wide = settled(widened(net, more), begin(net))
        if all_through(net, narrow):
            self.assertEqual(wide, narrow)
        for less, place in zip(narrow[0], wide[0]):
            self.assertLessEqual(less, place)
        for start, past in zip(narrow[3], wide[3]):
            self.assertEqual(past[:len(start)], start)
        return wide == narrow

    def test_same_state_where_all_are_through(self):
        net = ([(0, 1, 1), (1, 0, 1)], [
            [("set", 5), ("put", 0), ("put", 0), ("add", 1)],
            [("take", 0), ("put", 1), ("add", 0)],
        ])
        for more in (0, 1, 2, 999, 1000, FAR):
            self.assertTrue(self.compare(net, more))
        self.assertTrue(all_through(net, settled(net, begin(net))))

    def test_more_room_lets_a_ring_go_on(self):
        rows = [[("put", 0), ("put", 0), ("take", 1)], [("put", 1), ("put", 1), ("take", 0)]]
        net = ([(0, 1, 1), (1, 0, 1)], rows)
        narrow = settled(net, begin(net))
        self.assertEqual((narrow[0], stuck(net, narrow)), ((1, 1), ("ring", [0, 1])))
        wide = settled(widened(net, 1), begin(net))
        self.assertEqual(wide, ((3, 3), (0, 0), ((0,), (0,)), ((0,), (0,))))
        self.assertFalse(self.compare(net, 1))

    def test_any_net_by_any_number(self):
        equal = []
        for net in random_nets(400, 181, length=12, room=2):
            for more in (0, 1, 2, 1000):
                equal.append(self.compare(net, more))
        self.assertGreater(equal.count(True), 200)
        self.assertGreater(equal.count(False), 50)


if __name__ == "__main__":
    unittest.main()
