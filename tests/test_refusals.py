"""Point 4: nets that are refused with NoPipe or with NoOrder."""

import unittest

from pipelinecut.errors import NoOrder, NoPipe
from tests.helper import (
    FAR,
    assert_let_by,
    assert_refused,
    greatest_net,
    lone_net,
    own_net,
    sample_net,
)

WORDS = ("set", "put", "take", "add")
SIGNS = "abdekpstuSPTA 0-_\n"


def words_off_by_one_sign(word):
    """All words with one sign put in, changed or left out."""
    off = []
    for at in range(len(word) + 1):
        for sign in SIGNS:
            off.append(word[:at] + sign + word[at:])
            off.append(word[:at] + sign + word[at + 1:])
        off.append(word[:at] + word[at + 1:])
    return sorted(set(off) - set(WORDS))


class NoPipeTest(unittest.TestCase):
    def refuse_at_each_place(self, wrong):
        for at in range(4):
            pipes, rows = sample_net()
            pipes[at] = wrong
            with self.subTest(at=at, wrong=wrong):
                assert_refused(self, NoPipe, (pipes, [[] for _ in rows]))
                assert_refused(self, NoPipe, (pipes, rows))

    def test_maker_is_no_worker(self):
        for maker in (-1, -2, -3, -4, -FAR, 3, 4, 20, FAR):
            self.refuse_at_each_place((maker, 1, 5))

    def test_taker_is_no_worker(self):
        for taker in (-1, -2, -3, -4, -FAR, 3, 4, 20, FAR):
            self.refuse_at_each_place((1, taker, 5))

    def test_both_are_no_workers(self):
        for who in (-1, 3, FAR):
            self.refuse_at_each_place((who, who, 5))

    def test_room_is_out_of_bounds(self):
        for room in (0, -1, -1000, -FAR, 1001, 1002, 2000, FAR):
            self.refuse_at_each_place((1, 2, room))
            self.refuse_at_each_place((2, 2, room))

    def test_number_too_long_for_python_to_write_out(self):
        for number in (10 ** 5000, -(10 ** 5000)):
            assert_refused(self, NoPipe, ([(number, 0, 1)], [[]]))
            assert_refused(self, NoPipe, ([(0, number, 1)], [[]]))
            assert_refused(self, NoPipe, ([(0, 0, number)], [[]]))

    def test_bounds_follow_the_number_of_workers(self):
        for workers in range(1, 21):
            rows = [[] for _ in range(workers)]
            last = workers - 1
            assert_let_by(self, ([(last, 0, 1), (0, last, 1)], rows))
            assert_refused(self, NoPipe, ([(workers, 0, 1)], rows))
            assert_refused(self, NoPipe, ([(0, workers, 1)], rows))

    def test_bounds_do_not_follow_the_number_of_pipes(self):
        assert_refused(self, NoPipe, ([(0, 0, 1)] * 9 + [(0, 5, 1)], [[]] * 3))
        assert_let_by(self, ([(0, 5, 1)], [[]] * 6))

    def test_in_the_greatest_net(self):
        for at in (0, 30, 59):
            for wrong in ((20, 0, 1), (0, 20, 1), (0, 0, 0), (0, 0, 1001), (-1, 0, 1)):
                pipes, rows = greatest_net()
                pipes[at] = wrong
                assert_refused(self, NoPipe, (pipes, rows))

    def test_wrong_pipe_goes_ahead_of_wrong_order(self):
        orders = (("get", 0), ("put", 9), ("put", -1), ("put", 2), ("take", 0))
        for order in orders:
            for who in range(3):
                for wrong in ((3, 1, 1), (1, -1, 1), (1, 1, 0), (1, 1, 1001)):
                    pipes, rows = sample_net()
                    pipes[-1] = wrong
                    rows[who].insert(0, order)
                    assert_refused(self, NoPipe, (pipes, rows))

    def test_wrong_pipe_of_which_no_order_speaks(self):
        assert_refused(self, NoPipe, ([(0, 0, 1), (0, 0, 0)], [[("put", 0)]]))


class NoOrderTest(unittest.TestCase):
    def refuse_at_each_place(self, order):
        """At the first, a middle and the last place, in the first and last row."""
        for workers, who in ((1, 0), (2, 0), (2, 1), (3, 1), (20, 19)):
            for at in range(5):
                rows = [[("set", 1)] * 4 for _ in range(workers)]
                rows[who].insert(at, order)
                with self.subTest(order=order, workers=workers, who=who, at=at):
                    assert_refused(self, NoOrder, own_net(*rows))

    def test_words_that_are_none(self):
        words = ("", " ", "get", "Put", "put ", " put", "PUT", "sets", "taken",
                 "addput", "put take", "tup", "tes", "dda", "ekat", "pipe", "worker")
        for word in words:
            self.refuse_at_each_place((word, 0))

    def test_words_with_one_sign_put_in_changed_or_left_out(self):
        for word in WORDS:
            for off in words_off_by_one_sign(word):
                with self.subTest(off=off):
                    assert_refused(self, NoOrder, lone_net((off, 0)))
                    assert_refused(self, NoOrder, lone_net((off, 1)))

    def test_word_that_is_none_with_any_number(self):
        for number in (0, 1, 2, -1, FAR, -FAR):
            for word in ("", "get", "Set", "sett"):
                assert_refused(self, NoOrder, lone_net((word, number)))

    def test_pipe_number_that_is_none(self):
        for word in ("put", "take", "add"):
            for number in (-1, -2, -FAR, 20, 60, FAR):
                self.refuse_at_each_place((word, number))
            for number in (2, 3, -1, -2, -3):
                assert_refused(self, NoOrder, lone_net((word, number)))

    def test_pipe_number_equal_to_the_number_of_pipes(self):
        for many in (0, 1, 2, 7, 60):
            for word in ("put", "take", "add"):
                pipes = [(0, 0, 1)] * many
                assert_let_by(self, (pipes, [[(word, at) for at in range(many)]]))
                assert_refused(self, NoOrder, (pipes, [[(word, many)]]))
                assert_refused(self, NoOrder, (pipes, [[(word, -1)]]))

    def test_pipe_number_too_long_for_python_to_write_out(self):
        for word in ("put", "take", "add", "get"):
            for number in (10 ** 5000, -(10 ** 5000)):
                assert_refused(self, NoOrder, lone_net((word, number)))

    def test_each_order_by_each_worker(self):
        pipes = [(0, 1, 2), (1, 2, 2), (2, 0, 2), (1, 1, 2), (2, 2, 2)]
        for number, (maker, taker, _) in enumerate(pipes):
            for word in ("put", "take", "add"):
                right = maker if word == "put" else taker
                for who in range(3):
                    for at in range(3):
                        rows = [[("set", 5), ("set", 6)] for _ in range(3)]
                        rows[who].insert(at, (word, number))
                        with self.subTest(word=word, number=number, who=who, at=at):
                            if who == right:
                                assert_let_by(self, (pipes, rows))
                            else:
                                assert_refused(self, NoOrder, (pipes, rows))

    def test_in_the_greatest_net(self):
        for who in (0, 10, 19):
            for at in (0, 100, 199):
                for wrong in (("get", 0), ("put", 60), ("put", -1), ("put", (who + 1) % 20)):
                    pipes, rows = greatest_net()
                    rows[who][at] = wrong
                    assert_refused(self, NoOrder, (pipes, rows))

    def test_order_on_a_net_without_pipes(self):
        for word in ("put", "take", "add"):
            assert_refused(self, NoOrder, ([], [[(word, 0)]]))
            assert_refused(self, NoOrder, ([], [[("set", 0)], [("set", 0), (word, 0)]]))

    def test_several_wrong_orders(self):
        assert_refused(self, NoOrder, lone_net(("put", 2), ("get", 0), ("take", -1)))


if __name__ == "__main__":
    unittest.main()
