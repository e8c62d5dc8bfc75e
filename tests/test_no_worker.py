"""Points 10 and 11: numbers that are no workers are refused ahead of all else."""

import unittest

from pipelinecut.errors import NoWorker
from pipelinecut.runs import run, settled
from pipelinecut.states import begin, can_step, is_through, step, wait_of
from tests.helper import FAR, assert_raises_only, sample_net


def one_worker_runs(net, state, who):
    """A run with one pick alone."""
    return run(net, state, [who])


FUNCTIONS = (is_through, can_step, wait_of, step, one_worker_runs)


class NoWorkerTest(unittest.TestCase):
    def refuse_all(self, net, state):
        workers = len(net[1])
        for who in (-1, -2, -workers, -workers - 1, workers, workers + 1, FAR, -FAR):
            for function in FUNCTIONS:
                with self.subTest(function=function.__name__, who=who):
                    assert_raises_only(self, NoWorker, function, net, state, who)

    def test_where_some_can_step(self):
        self.refuse_all(sample_net(), begin(sample_net()))

    def test_where_nobody_has_anything_to_do(self):
        for workers in range(1, 21):
            net = ([], [[] for _ in range(workers)])
            self.refuse_all(net, begin(net))
            net = ([(0, workers - 1, 1)] * 30, [[] for _ in range(workers)])
            self.refuse_all(net, begin(net))

    def test_where_all_are_through_behind_orders(self):
        net = ([(0, 1, 2)], [[("set", 1), ("put", 0)], [("take", 0)]])
        state = settled(net, begin(net))
        self.assertEqual(state[0], (2, 1))
        self.refuse_all(net, state)

    def test_where_all_wait(self):
        net = ([(0, 1, 1), (1, 0, 1)], [[("take", 1)], [("add", 0)]])
        self.refuse_all(net, begin(net))
        net = ([(0, 1, 1), (1, 0, 1)], [[("put", 0)], [("put", 1)]])
        self.refuse_all(net, ((0, 0), (0, 0), ((5,), (6,)), ((), ())))

    def test_number_too_long_for_python_to_write_out(self):
        for function in FUNCTIONS:
            for who in (10 ** 5000, -(10 ** 5000)):
                net = sample_net()
                assert_raises_only(self, NoWorker, function, net, begin(net), who)

    def test_all_workers_are_let_by(self):
        for workers in (1, 2, 20):
            net = ([], [[("set", who)] for who in range(workers)])
            state = begin(net)
            for who in range(workers):
                self.assertIs(is_through(net, state, who), False)
                self.assertIs(can_step(net, state, who), True)
                self.assertIsNone(wait_of(net, state, who))
                self.assertEqual(step(net, state, who)[1][who], who)
                self.assertEqual(run(net, state, [who])[1], [True])

    def test_at_the_first_a_middle_and_the_last_place_of_the_picks(self):
        net = sample_net()
        for wrong in (-1, -3, 3, FAR, -FAR):
            for at in range(5):
                picks = [0, 1, 0, 2]
                picks.insert(at, wrong)
                with self.subTest(picks=picks):
                    assert_raises_only(self, NoWorker, run, net, begin(net), picks)

    def test_behind_picks_at_which_nothing_is_done(self):
        net = ([], [[], []])
        assert_raises_only(self, NoWorker, run, net, begin(net), [0, 1, 0, 2])
        assert_raises_only(self, NoWorker, run, net, begin(net), [2, 2])


if __name__ == "__main__":
    unittest.main()
