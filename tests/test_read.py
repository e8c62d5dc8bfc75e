"""Point 19: texts read to nets, and texts that are refused."""

import unittest

from pipelinecut.errors import BadNote, NoOrder, NoPipe
from pipelinecut.notes import read, written
from tests.helper import (
    FAR,
    SIXTY_NINES,
    assert_kinds,
    assert_raises_only,
    called,
    greatest_net,
    lone_net,
    random_nets,
    sample_net,
)

GOOD = ["pipe 0 1 3", "pipe 1 1 2", "worker", "put 0", "set -5", "worker", "take 0", "add 1"]


class ReadTest(unittest.TestCase):
    def expect(self, net, text):
        answer = called(self, read, text)
        self.assertEqual(answer, net)
        assert_kinds(self, answer)

    def test_by_hand(self):
        rows = [[("put", 0), ("set", -5)], [("take", 0), ("add", 1)]]
        self.expect(([(0, 1, 3), (1, 1, 2)], rows), "\n".join(GOOD))

    def test_what_is_written_is_read(self):
        numbers = (0, 1, -1, 10, -10, FAR, -FAR, SIXTY_NINES, -SIXTY_NINES)
        for net in (
            sample_net(),
            greatest_net(),
            lone_net(("take", 1), ("add", 0), ("put", 1)),
            ([], [[]]),
            ([], [[]] * 20),
            ([(0, 0, 1000)], [[]]),
            ([(1, 0, 1)] * 60, [[], [], []]),
            ([], [[("set", number) for number in numbers]]),
        ):
            self.expect(net, written(net))
            self.assertEqual(written(read(written(net))), written(net))

    def test_random_nets(self):
        for net in random_nets(200, 191):
            self.expect(net, written(net))

    def test_rows_are_lists_of_their_own(self):
        _, rows = read("worker\nworker")
        rows[0].append(("set", 1))
        self.assertEqual(rows, [[("set", 1)], []])

    def test_somewhat_beyond_the_bounds_no_error_is_told(self):
        net = greatest_net(21, 61, 201)
        self.expect(net, written(net))
        self.expect(([], [[("set", 10 ** 70)]]), "worker\nset 1" + "0" * 70)

    def test_every_room(self):
        for room in range(1, 1001):
            self.assertEqual(read(f"pipe 0 0 {room}\nworker"), ([(0, 0, room)], [[]]))


class BadNoteTest(unittest.TestCase):
    def refuse(self, text):
        with self.subTest(text=text):
            assert_raises_only(self, BadNote, read, text)

    def refuse_line(self, line):
        """The line put in anywhere, and in the place of any other one."""
        for at in range(len(GOOD) + 1):
            self.refuse("\n".join(GOOD[:at] + [line] + GOOD[at:]))
            self.refuse("\n".join(GOOD[:at] + [line] + GOOD[at + 1:]))
        self.refuse(line)

    def refuse_each_way(self, change):
        """The text with any one line changed so."""
        for at, line in enumerate(GOOD):
            self.refuse("\n".join(GOOD[:at] + [change(line)] + GOOD[at + 1:]))

    def test_empty_text(self):
        self.refuse("")
        self.refuse(" ")
        self.refuse("\n")

    def test_no_worker(self):
        self.refuse("pipe 0 0 1")
        self.refuse("pipe 0 0 1\npipe 0 0 1")
        # Such pipes would be refused with NoPipe, but there is no worker.
        self.refuse("pipe 0 0 0")

    def test_empty_line(self):
        self.refuse_line("")
        self.refuse("\nworker")
        self.refuse("worker\n")
        self.refuse("worker\n\nset 1")
        self.refuse("worker\nset 1\n\n")

    def test_line_of_blanks(self):
        for line in (" ", "  ", "\t"):
            self.refuse_line(line)

    def test_blank_too_many(self):
        self.refuse_each_way(lambda line: " " + line)
        self.refuse_each_way(lambda line: line + " ")
        for line in ("pipe  0 1 3", "pipe 0  1 3", "pipe 0 1  3", "set  1", "put  0",
                     "take  0", "add  0", "worker ", " worker", "set 1 ", "put 0  "):
            self.refuse_line(line)

    def test_blank_too_few(self):
        for line in ("pipe0 1 3", "pipe 01 3", "pipe 0 13", "set1", "put0", "take0", "add1",
                     "pipe013", "set-1"):
            self.refuse_line(line)

    def test_tab_and_other_blanks(self):
        for blank in ("\t", "\u00a0", "\u2003", "\x0b", "\x0c", "\x1f", "_", ","):
            self.refuse_each_way(lambda line: blank + line)
            self.refuse_each_way(lambda line: line + blank)
            for line in ("pipe 0 1 3", "set 1", "put 0", "take 0", "add 0"):
                self.refuse_line(line.replace(" ", blank, 1))
                self.refuse_line(line.replace(" ", " " + blank, 1))

    def test_other_words(self):
        for word in ("", "get", "sets", "se", "pipes", "workers", "#", "//", "tak", "0", "\u0440ut"):
            for rest in ("", " 0", " 1", " 0 1 3"):
                self.refuse_line(word + rest)

    def test_words_in_capitals(self):
        self.refuse_each_way(lambda line: line.upper())
        self.refuse_each_way(lambda line: line.capitalize())

    def test_too_few_and_too_many_numbers(self):
        for line in ("pipe", "pipe 0", "pipe 0 1", "pipe 0 1 3 4", "pipe 0 1 3 4 5"):
            self.refuse_line(line)
        for word in ("set", "put", "take", "add"):
            for rest in ("", " ", " 0 0", " 0 1 2", " 0 1 2 3"):
                self.refuse_line(word + rest)

    def test_worker_with_something_behind_it(self):
        for rest in (" 0", " 1", " -1", " x", " ", "0", ":", " worker"):
            self.refuse_line("worker" + rest)

    def test_numbers_not_written_so(self):
        numbers = ("+1", "+0", "-0", "00", "01", "-00", "-01", "--1", "1_000", "1-", "-", "- 1",
                   "1.0", "1e3", "0x1", "one", "x", "1x", "x1", "1,000", "1 000", "0-", "007",
                   "\u0661", "1\u0661", "\u00b2", "\uff11", "\u096b", "\u2460", "-\u0661",
                   "\u22121", "True", "None", "'1'", "(1)", "1\x00", "\ud800")
        for number in numbers:
            for word in ("set", "put", "take", "add"):
                self.refuse_line(word + " " + number)
            for line in (f"pipe {number} 1 3", f"pipe 0 {number} 3", f"pipe 0 1 {number}"):
                self.refuse_line(line)

    def test_number_below_nought_elsewhere_than_in_a_set(self):
        for number in ("-1", "-2", "-10", "-" + "9" * 60):
            for word in ("put", "take", "add"):
                self.refuse_line(f"{word} {number}")
            for line in (f"pipe {number} 1 3", f"pipe 0 {number} 3", f"pipe 0 1 {number}"):
                self.refuse_line(line)

    def test_pipe_behind_the_first_worker(self):
        for at in range(3, len(GOOD) + 1):
            self.refuse("\n".join(GOOD[:at] + ["pipe 0 0 1"] + GOOD[at:]))
        self.refuse("worker\npipe 0 0 1")
        self.refuse("worker\nworker\npipe 0 1 1\nworker")

    def test_order_ahead_of_the_first_worker(self):
        for order in ("set 0", "set -1", "put 0", "take 0", "add 0"):
            for at in range(3):
                self.refuse("\n".join(GOOD[:at] + [order] + GOOD[at:]))
            self.refuse(order)
            self.refuse(order + "\nworker")

    def test_other_line_ends(self):
        for end in ("\r", "\r\n", "\n\r", "\x0b", "\x0c", "\x1c", "\x85", "\u2028", "\u2029",
                    "\n\n", " \n", "\n ", "\\n", ";", " "):
            self.refuse(end.join(GOOD))
            self.refuse(end.join(["worker", "worker"]))
            for at in range(1, len(GOOD)):
                self.refuse("\n".join(GOOD[:at]) + end + "\n".join(GOOD[at:]))
            self.refuse("\n".join(GOOD) + end)
            self.refuse(end + "\n".join(GOOD))

    def test_bad_line_goes_ahead_of_wrong_pipe_and_order(self):
        for wrong in ("pipe 9 0 1\nworker", "pipe 0 0 0\nworker", "worker\nput 5"):
            for bad in ("", "worker 1", "set +1", "pipe 0 0 1", "take -1"):
                self.refuse(wrong + "\n" + bad)
                self.refuse(wrong + "\nworker\n" + bad)
            self.refuse("x\n" + wrong)


class LookedAtTest(unittest.TestCase):
    """Where all lines are good, NoPipe and NoOrder are told as of any net."""

    def test_no_pipe(self):
        for pipe in ("1 0 1", "0 1 1", "0 0 0", "0 0 1001", "7 7 7", "0 0 " + "9" * 60):
            assert_raises_only(self, NoPipe, read, f"pipe {pipe}\nworker")
            assert_raises_only(self, NoPipe, read, f"pipe 0 0 5\npipe {pipe}\nworker\nset 1")

    def test_no_order(self):
        for order in ("put 1", "take 1", "add 1", "put 60", "add " + "9" * 60):
            assert_raises_only(self, NoOrder, read, f"pipe 0 0 5\nworker\nset 1\n{order}")
        for word in ("put", "take", "add"):
            assert_raises_only(self, NoOrder, read, f"worker\n{word} 0")

    def test_order_of_another_worker(self):
        head = "pipe 0 1 5\nworker\n"
        assert_raises_only(self, NoOrder, read, head + "take 0\nworker")
        assert_raises_only(self, NoOrder, read, head + "add 0\nworker")
        assert_raises_only(self, NoOrder, read, head + "worker\nput 0")
        self.assertEqual(read(head + "put 0\nworker\ntake 0")[0], [(0, 1, 5)])

    def test_wrong_pipe_goes_ahead_of_wrong_order(self):
        assert_raises_only(self, NoPipe, read, "pipe 0 0 5\npipe 0 1 5\nworker\nput 9")
        assert_raises_only(self, NoPipe, read, "pipe 0 0 1001\nworker\nput 0\ntake 7")


if __name__ == "__main__":
    unittest.main()
