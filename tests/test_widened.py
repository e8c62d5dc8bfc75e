"""Point 6: nets with more room."""

import unittest
from copy import deepcopy

from pipelinecut.nets import checked, widened
from tests.helper import FAR, SIXTY_NINES, assert_kinds, greatest_net, sample_net


class WidenedTest(unittest.TestCase):
    def expect_rooms(self, rooms, net, more):
        """These rooms come, and all else is as it was, in both nets."""
        before = deepcopy(net)
        answer = widened(net, more)
        assert_kinds(self, answer)
        self.assertEqual([pipe[2] for pipe in answer[0]], rooms)
        self.assertEqual([pipe[:2] for pipe in answer[0]], [pipe[:2] for pipe in before[0]])
        self.assertEqual(answer[1], before[1])
        self.assertEqual(net, before)
        self.assertEqual(checked(answer), answer)

    def test_by_nought(self):
        self.expect_rooms([1, 5, 1000, 7], sample_net(), 0)
        self.assertEqual(widened(sample_net(), 0), sample_net())

    def test_by_one(self):
        self.expect_rooms([2, 6, 1000, 8], sample_net(), 1)

    def test_to_just_1000(self):
        self.expect_rooms([994, 998, 1000, 1000], sample_net(), 993)
        self.expect_rooms([1000, 1000, 1000, 1000], sample_net(), 999)

    def test_one_below_1000_and_one_beyond(self):
        self.expect_rooms([993, 997, 1000, 999], sample_net(), 992)
        self.expect_rooms([995, 999, 1000, 1000], sample_net(), 994)
        self.expect_rooms([999, 1000, 1000, 1000], sample_net(), 998)

    def test_by_a_very_large_number(self):
        for more in (1000, 1001, FAR, SIXTY_NINES, 10 ** 5000):
            self.expect_rooms([1000] * 4, sample_net(), more)

    def test_each_room_by_each_number(self):
        for room in (1, 2, 3, 499, 500, 501, 998, 999, 1000):
            for more in (0, 1, 2, 499, 500, 501, 997, 998, 999, 1000, 1001):
                most = room + more if room + more < 1000 else 1000
                self.expect_rooms([most], ([(0, 0, room)], [[("put", 0)]]), more)

    def test_twice_is_by_the_sum(self):
        net = sample_net()
        for first, second in ((1, 2), (0, 5), (990, 8), (999, 999)):
            self.assertEqual(widened(widened(net, first), second), widened(net, first + second))

    def test_no_pipes(self):
        self.expect_rooms([], ([], [[]]), 5)
        self.expect_rooms([], ([], [[("set", 1)], []]), FAR)

    def test_no_orders(self):
        self.expect_rooms([4, 5], ([(0, 1, 1), (1, 0, 2)], [[], []]), 3)

    def test_greatest_net(self):
        net = greatest_net()
        rooms = [min(pipe[2] + 100, 1000) for pipe in net[0]]
        self.expect_rooms(rooms, net, 100)


if __name__ == "__main__":
    unittest.main()
