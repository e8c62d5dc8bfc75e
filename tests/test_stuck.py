"""Points 14 and 15: why a net stands still."""

import random
import unittest
from itertools import permutations

from pipelinecut.runs import settled, stuck
from pipelinecut.states import begin, can_step, is_through, wait_of
from tests.helper import called, lone_net, random_nets, random_state


def waiting_net(targets):
    """A net in which each worker waits to take from its target; None for an empty row."""
    pipes = []
    rows = []
    for who, target in enumerate(targets):
        rows.append([])
        if target is not None:
            rows[who].append(("take", len(pipes)))
            pipes.append((target, who, 1))
    return pipes, rows


class StuckTest(unittest.TestCase):
    def expect(self, why, net, state):
        answer = called(self, stuck, net, state)
        self.assertEqual(answer, why)
        if why is not None:
            self.assertIs(type(answer), tuple)
            self.assertIs(type(answer[1]), list)
            self.assertEqual([type(who) for who in answer[1]], [int] * len(answer[1]))

    def expect_waiting(self, why, *targets):
        net = waiting_net(targets)
        self.expect(why, net, begin(net))

    def test_none_where_all_are_through(self):
        self.expect(None, ([], [[]]), begin(([], [[]])))
        self.expect(None, ([(0, 1, 1)], [[], []]), ((0, 0), (0, 0), ((5,),), ((),)))
        net = ([(0, 1, 1)], [[("put", 0)], [("take", 0)]])
        self.expect(None, net, settled(net, begin(net)))

    def test_none_where_somebody_can_step(self):
        net = ([], [[("set", 1)]])
        self.expect(None, net, begin(net))
        for many in range(1, 6):
            for at in range(many):
                # All others wait, each for itself.
                pipes = [(who, who, 1) for who in range(many)]
                rows = [[("take", who)] for who in range(many)]
                rows[at] = [("put", at)]
                self.expect(None, (pipes, rows), begin((pipes, rows)))

    def test_none_where_one_can_step_and_all_others_are_through(self):
        net = ([(0, 1, 1)], [[], [("take", 0)], []])
        self.expect(None, net, ((0, 0, 0), (0, 0, 0), ((3,),), ((),)))

    def test_end_at_once(self):
        self.expect_waiting(("end", [0, 1]), 1, None)
        self.expect_waiting(("end", [1, 0]), None, 0)
        self.expect_waiting(("end", [1, 2]), None, 2, None)

    def test_end_goes_over_all_in_the_order_of_going(self):
        self.expect_waiting(("end", [0, 3, 1, 2]), 3, 2, None, 1)
        self.expect_waiting(("end", [0, 1, 2, 3, 4]), 1, 2, 3, 4, None)
        self.expect_waiting(("end", [1, 4, 2, 3, 0]), None, 4, 3, 0, 2)

    def test_end_leaves_out_who_is_not_on_the_way(self):
        self.expect_waiting(("end", [0, 2]), 2, 0, None, 1)
        self.expect_waiting(("end", [0, 4, 5]), 4, 1, 1, 2, 5, None)

    def test_ring_of_one(self):
        self.expect_waiting(("ring", [0]), 0)
        self.expect_waiting(("ring", [2]), None, None, 2)
        self.expect_waiting(("ring", [1]), 1, 1)
        self.expect_waiting(("ring", [0]), 0, 1)

    def test_ring_in_the_order_of_going(self):
        self.expect_waiting(("ring", [0, 1]), 1, 0)
        self.expect_waiting(("ring", [0, 1, 2]), 1, 2, 0)
        self.expect_waiting(("ring", [0, 2, 1]), 2, 0, 1)
        self.expect_waiting(("ring", [1, 3, 2]), None, 3, 1, 2)

    def test_ring_is_begun_with_its_least_behind_others_gone_over(self):
        # From 0 one comes to 3 first, which is not the least of the ring.
        self.expect_waiting(("ring", [1, 2, 3]), 3, 2, 3, 1)
        self.expect_waiting(("ring", [1, 3, 2]), 2, 3, 1, 2)
        self.expect_waiting(("ring", [2, 4, 3]), 1, 3, 4, 2, 3)
        self.expect_waiting(("ring", [4]), 1, 2, 3, 4, 4)

    def test_least_who_waits_tells_which_of_two(self):
        self.expect_waiting(("ring", [0, 1]), 1, 0, 3, 2)
        self.expect_waiting(("ring", [0, 3]), 3, 2, 1, 0)
        self.expect_waiting(("ring", [1, 2]), None, 2, 1, 0)
        self.expect_waiting(("end", [1, 0]), None, 0, 3, 2)

    def test_rings_of_20(self):
        self.expect_waiting(("ring", list(range(20))), *range(1, 20), 0)
        backwards = [19] + list(range(19))
        self.expect_waiting(("ring", [0] + list(range(19, 0, -1))), *backwards)
        self.expect_waiting(("end", list(range(20))), *range(1, 20), None)

    def test_each_ring_of_five(self):
        for order in permutations(range(1, 5)):
            ring = (0,) + order
            targets = [0] * 5
            for at, who in enumerate(ring):
                targets[who] = ring[(at + 1) % 5]
            self.expect_waiting(("ring", list(ring)), *targets)

    def test_one_who_waits_to_put_waits_for_the_taker(self):
        net = ([(0, 1, 1), (1, 0, 1)], [[("put", 0)] * 2, [("put", 1)] * 2])
        self.expect(("ring", [0, 1]), net, settled(net, begin(net)))
        net = ([(0, 2, 1)], [[("put", 0)] * 2, [], []])
        self.expect(("end", [0, 2]), net, settled(net, begin(net)))
        net = lone_net(("put", 0), ("put", 0))
        self.expect(("ring", [0]), net, settled(net, begin(net)))

    def test_put_take_and_add_in_one_ring(self):
        pipes = [(0, 2, 1), (1, 2, 1), (1, 0, 1)]
        rows = [[("put", 0), ("put", 0)], [("add", 3)], [("take", 1)]]
        pipes.append((0, 1, 1))
        net = (pipes, rows)
        self.expect(("ring", [0, 2, 1]), net, settled(net, begin(net)))

    def test_state_that_no_run_comes_to(self):
        net = ([(0, 1, 2)], [[("put", 0)], [("set", 1)]])
        self.expect(("end", [0, 1]), net, ((0, 1), (0, 0), ((5, 6),), ((),)))

    def test_any_state(self):
        dice = random.Random(15)
        kinds = []
        for net in random_nets(1500, 152, length=3, room=1):
            for state in (settled(net, begin(net)), random_state(net, dice)):
                why = self.told_by_hand(net, state)
                self.expect(why, net, state)
                kinds.append(why and why[0])
        self.assertGreater(min(kinds.count(kind) for kind in (None, "ring", "end")), 50)

    def told_by_hand(self, net, state):
        """Why it stands still, told with a walk of as many goings as there are workers."""
        workers = range(len(net[1]))
        if any(can_step(net, state, who) for who in workers):
            return None
        if all(is_through(net, state, who) for who in workers):
            return None
        way = [min(who for who in workers if wait_of(net, state, who))]
        while len(way) <= 2 * len(workers) and not is_through(net, state, way[-1]):
            way.append(wait_of(net, state, way[-1])[1])
        if is_through(net, state, way[-1]):
            return "end", way
        # So long a walk is in the ring by now, and goes round it to its end.
        least = min(way[len(workers):])
        first = way.index(least)
        return "ring", way[first:way.index(least, first + 1)]


if __name__ == "__main__":
    unittest.main()
