"""Point 18: nets as texts."""

import unittest

from pipelinecut.notes import written
from tests.helper import SIXTY_NINES, called, greatest_net, sample_net

SAMPLE = """pipe 0 1 1
pipe 1 2 5
pipe 2 0 1000
pipe 1 1 7
worker
set 3
put 0
take 2
set -4
put 0
worker
take 0
put 1
add 0
put 3
take 3
worker
set 999999999999999999999999999999999999999999999999999999999999
add 1
put 2"""


class WrittenTest(unittest.TestCase):
    def expect(self, lines, net):
        text = called(self, written, net)
        self.assertIs(type(text), str)
        self.assertEqual(text, "\n".join(lines))

    def test_sample(self):
        self.expect(SAMPLE.split("\n"), sample_net())
        self.assertEqual(written(sample_net()), SAMPLE)

    def test_no_line_end_behind_the_last_line(self):
        self.assertEqual(written(([], [[]])), "worker")
        self.assertEqual(written(([], [[("set", 0)]])), "worker\nset 0")

    def test_workers_without_orders(self):
        self.expect(["worker"] * 20, ([], [[]] * 20))
        self.expect(["worker", "worker", "set 1", "worker"], ([], [[], [("set", 1)], []]))
        self.expect(["pipe 1 0 1000", "worker", "worker"], ([(1, 0, 1000)], [[], []]))

    def test_no_pipes(self):
        net = ([], [[("set", 1), ("set", 2)], [("set", 3)]])
        self.expect(["worker", "set 1", "set 2", "worker", "set 3"], net)

    def test_each_word(self):
        net = ([(0, 0, 1)] * 2, [[("add", 1), ("take", 0), ("put", 1), ("set", 1)]])
        lines = ["pipe 0 0 1", "pipe 0 0 1", "worker", "add 1", "take 0", "put 1", "set 1"]
        self.expect(lines, net)

    def test_maker_taker_and_room_in_this_order(self):
        self.expect(["pipe 2 1 3"] + ["worker"] * 3, ([(2, 1, 3)], [[], [], []]))

    def test_numbers(self):
        numbers = (0, 1, -1, 9, 10, -10, 100, 10 ** 59, SIXTY_NINES, -SIXTY_NINES, -(10 ** 59))
        figures = ("0", "1", "-1", "9", "10", "-10", "100", "1" + "0" * 59, "9" * 60,
                   "-" + "9" * 60, "-1" + "0" * 59)
        for number, figure in zip(numbers, figures):
            self.expect(["worker", "set " + figure], ([], [[("set", number)]]))
        lines = ["worker"] + ["set " + figure for figure in figures]
        self.expect(lines, ([], [[("set", number) for number in numbers]]))

    def test_greatest_net(self):
        pipes, rows = greatest_net()
        lines = [" ".join(["pipe"] + [str(number) for number in pipe]) for pipe in pipes]
        for row in rows:
            lines.append("worker")
            for word, number in row:
                lines.append(word + " " + str(number))
        self.assertEqual(len(lines), 60 + 20 * 201)
        self.expect(lines, (pipes, rows))


if __name__ == "__main__":
    unittest.main()
