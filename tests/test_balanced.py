"""Point 5: whether a net is balanced."""

import unittest
from copy import deepcopy
from itertools import product

from pipelinecut.nets import balanced
from tests.helper import greatest_net, lone_net, sample_net


class BalancedTest(unittest.TestCase):
    def expect(self, answer, net):
        before = deepcopy(net)
        self.assertIs(balanced(net), answer)
        self.assertEqual(net, before)

    def test_sample(self):
        self.expect(True, sample_net())

    def test_no_pipes(self):
        self.expect(True, ([], [[]]))
        self.expect(True, ([], [[("set", 0)], [("set", 5)], []]))

    def test_pipes_without_orders(self):
        self.expect(True, ([(0, 1, 1), (1, 0, 1000)], [[], []]))
        self.expect(True, lone_net(("set", 0), ("set", 1)))

    def test_takes_and_adds_count_together(self):
        for first in ("take", "add"):
            for second in ("take", "add"):
                self.expect(True, lone_net(("put", 0), ("put", 0), (first, 0), (second, 0)))
                self.expect(True, ([(0, 1, 1)], [[("put", 0)] * 2, [(first, 0), (second, 0)]]))
                self.expect(False, lone_net(("put", 0), (first, 0), (second, 0)))

    def test_one_put_too_many(self):
        self.expect(False, lone_net(("put", 0)))
        self.expect(False, lone_net(("put", 1)))
        for at, number in ((0, 0), (1, 1), (2, 2), (1, 3)):
            pipes, rows = sample_net()
            rows[at].append(("put", number))
            self.expect(False, (pipes, rows))

    def test_one_take_or_add_too_many(self):
        for word in ("take", "add"):
            self.expect(False, lone_net((word, 0)))
            self.expect(False, lone_net((word, 1)))
            for at, number in ((1, 0), (2, 1), (0, 2), (1, 3)):
                pipes, rows = sample_net()
                rows[at].insert(0, (word, number))
                self.expect(False, (pipes, rows))

    def test_other_pipe_does_not_make_up_for_it(self):
        self.expect(False, lone_net(("put", 0), ("take", 1)))
        self.expect(False, lone_net(("put", 1), ("add", 0)))
        self.expect(False, lone_net(("put", 0), ("put", 0), ("take", 0), ("take", 1)))
        pipes = [(0, 1, 4), (2, 1, 4)]
        self.expect(False, (pipes, [[("put", 0)] * 2, [("take", 0), ("take", 1)], []]))
        self.expect(False, (pipes, [[("put", 0)], [("add", 1)] * 2, [("put", 1)]]))
        self.expect(True, (pipes, [[("put", 0)], [("take", 0), ("add", 1)], [("put", 1)]]))

    def test_order_in_the_row_does_not_matter(self):
        self.expect(True, lone_net(("take", 0), ("put", 0)))
        self.expect(True, lone_net(("add", 1), ("add", 1), ("put", 1), ("put", 1)))

    def test_room_does_not_matter(self):
        self.expect(True, ([(0, 0, 1)], [[("put", 0)] * 100 + [("take", 0)] * 100]))

    def test_set_does_not_count(self):
        for number in (0, 1, -1, -2, 2, 10 ** 40):
            self.expect(True, lone_net(("set", number)))
            self.expect(True, lone_net(("put", 1), ("set", number), ("take", 1)))
            self.expect(False, lone_net(("put", 1), ("set", number)))

    def test_all_short_rows(self):
        orders = list(product(("put", "take", "add"), (0, 1))) + [("set", 0)]
        for length in range(5):
            for row in product(orders, repeat=length):
                even = all(
                    row.count(("put", pipe)) == row.count(("take", pipe)) + row.count(("add", pipe))
                    for pipe in (0, 1)
                )
                self.assertIs(balanced(lone_net(*row)), even, row)

    def test_greatest_net(self):
        pipes, _ = greatest_net()
        rows = [[] for _ in range(20)]
        for number, (maker, taker, _) in enumerate(pipes):
            rows[maker].append(("put", number))
            rows[taker].append((("take", "add")[number % 2], number))
        self.expect(True, (pipes, rows))
        rows[pipes[59][0]].append(("put", 59))
        self.expect(False, (pipes, rows))


if __name__ == "__main__":
    unittest.main()
