"""Point 4: nets that are let by."""

import unittest
from copy import deepcopy

from pipelinecut import nets
from pipelinecut.nets import checked
from tests.helper import (
    FAR,
    SIXTY_NINES,
    assert_let_by,
    greatest_net,
    lone_net,
    sample_net,
)


class LetByTest(unittest.TestCase):
    def test_functions_stand_in_their_file(self):
        for function in (nets.checked, nets.balanced, nets.widened):
            self.assertEqual(function.__module__, "pipelinecut.nets")

    def test_sample(self):
        assert_let_by(self, sample_net())

    def test_one_worker_and_no_pipe(self):
        assert_let_by(self, ([], [[]]))
        assert_let_by(self, ([], [[("set", 0), ("set", 7)]]))

    def test_empty_rows(self):
        assert_let_by(self, ([(0, 1, 2), (1, 0, 3)], [[], []]))
        assert_let_by(self, ([(0, 2, 2)], [[], [("set", 1)], []]))
        assert_let_by(self, ([(2, 0, 2)], [[("take", 0)], [], [("put", 0)]]))

    def test_greatest_net(self):
        net = greatest_net()
        pipes, rows = net
        self.assertEqual((len(pipes), len(rows)), (60, 20))
        self.assertEqual([len(row) for row in rows], [200] * 20)
        self.assertEqual((pipes[0][2], pipes[-1][2]), (1, 1000))
        assert_let_by(self, net)

    def test_somewhat_beyond_the_bounds_on_lengths_no_error_is_told(self):
        assert_let_by(self, greatest_net(21, 61, 201))
        assert_let_by(self, lone_net(("set", 10 ** 61), ("set", -(10 ** 61))))

    def test_every_room(self):
        assert_let_by(self, ([(0, 0, room) for room in (1, 2, 999, 1000)], [[]]))
        for room in range(1, 1001):
            self.assertEqual(checked(([(0, 0, room)], [[]])), ([(0, 0, room)], [[]]))

    def test_every_worker_is_maker_and_taker(self):
        for maker in range(4):
            for taker in range(4):
                rows = [[], [], [], []]
                rows[maker] += [("put", 0), ("put", 0)]
                rows[taker] += [("take", 0), ("add", 0)]
                assert_let_by(self, ([(maker, taker, 9)], rows))

    def test_maker_who_is_its_own_taker(self):
        assert_let_by(self, lone_net(("put", 0), ("take", 0), ("put", 1), ("add", 1)))
        assert_let_by(self, lone_net(("add", 1), ("take", 1), ("put", 1)))

    def test_set_takes_any_number(self):
        numbers = (0, 1, 2, -1, -2, 1001, FAR, -FAR, SIXTY_NINES, -SIXTY_NINES)
        for number in numbers:
            with self.subTest(number=number):
                assert_let_by(self, ([], [[("set", number)]]))
                assert_let_by(self, lone_net(("put", 1), ("set", number), ("take", 1)))

    def test_more_orders_on_a_pipe_than_its_room_or_its_numbers(self):
        assert_let_by(self, lone_net(*[("put", 0)] * 200))
        assert_let_by(self, lone_net(*[("take", 1)] * 100 + [("add", 1)] * 100))

    def test_equal_pipes_and_equal_rows(self):
        assert_let_by(self, ([(0, 1, 1)] * 5, [[("put", 4)], [("take", 4)]]))
        assert_let_by(self, ([], [[("set", 1)], [("set", 1)]]))

    def test_twice_is_the_same(self):
        for net in (sample_net(), greatest_net()):
            self.assertEqual(checked(checked(net)), net)


class NewListsTest(unittest.TestCase):
    def change(self, net):
        pipes, rows = net
        for row in rows:
            row.append(("set", 99))
            row[0] = ("set", 98)
        rows.append([("set", 97)])
        pipes.append((0, 0, 96))
        pipes[0] = (0, 0, 95)

    def test_change_of_the_answer_leaves_what_was_handed_in(self):
        net = sample_net()
        self.change(checked(net))
        self.assertEqual(net, sample_net())

    def test_change_of_what_was_handed_in_leaves_the_answer(self):
        net = sample_net()
        answer = checked(net)
        self.change(net)
        self.assertEqual(answer, sample_net())

    def test_lists_are_other_lists(self):
        net = ([], [[], [("set", 1)], []])
        answer = checked(net)
        self.assertEqual(answer, net)
        self.assertIsNot(answer[0], net[0])
        self.assertIsNot(answer[1], net[1])
        for new, old in zip(answer[1], net[1]):
            self.assertIsNot(new, old)

    def test_rows_that_were_one_list_are_told_apart(self):
        row = [("set", 1)]
        answer = checked(([], [row, row]))
        answer[1][0].append(("set", 2))
        self.assertEqual(answer, ([], [[("set", 1), ("set", 2)], [("set", 1)]]))
        self.assertEqual(row, [("set", 1)])

    def test_answers_of_two_calls_are_apart(self):
        net = sample_net()
        first = checked(net)
        second = checked(net)
        self.change(first)
        self.assertEqual(second, sample_net())

    def test_greatest_net_stays(self):
        net = greatest_net()
        before = deepcopy(net)
        self.change(checked(net))
        self.assertEqual(net, before)


if __name__ == "__main__":
    unittest.main()
