import contextlib
import io
import unittest

from tangledfiles.document import answers
from tests.support import (EXAMPLE, argument, count, file, home, last, listed, read, read_lines, size, variant,
                           where, with_length)

TEXT = [
    "@file m", "x", "@end",
]


class Lists(unittest.TestCase):
    def test_each_answer_stands_behind_its_length(self):
        calls = (size() + read_lines(*TEXT) + file("m") + file("n") + count("m") + variant("s") + variant("S")
                 + home(0, 0, "m") + where(0, 0, 0, 0, "m") + argument(0, 0, 0, 0, 0, "m") + read("@") + size())
        self.assertEqual(answers(calls), [
            4, 0, 0, 0, 0,
            2, 0, 1,
            4, 0, 2, 120, 10,
            1, -3,
            2, 1, 2,
            1, 0,
            1, -1,
            7, 120, 0, 0, 0, 0, 0, 0,
            3, 1, 0, 0,
            1, -2,
            2, 1, 1,
            4, 1, 1, 0, 1,
        ])

    def test_calls_as_they_are_told(self):
        self.assertEqual(answers([0, 0]), [2, 0, 0])
        self.assertEqual(answers([0, 2, 97, 10, 12]), [2, 0, 1, 4, 1, 0, 0, 0])
        self.assertEqual(answers([1, 3, 97, 32, 98]), [1, 0])
        self.assertEqual(answers([2, 0]), [1, -3])
        self.assertEqual(answers([3, 1, 97]), [1, -3])
        self.assertEqual(answers([4, 7, 8, 1, 97]), [1, -3])
        self.assertEqual(answers([5, 1, 2, 3, 4, 1, 97]), [1, -2])
        self.assertEqual(answers([6, 1, 2, 3, 4, 5, 1, 97]), [1, -2])
        self.assertEqual(answers([12]), [4, 0, 0, 0, 0])

    def test_forty_calls(self):
        calls = read_lines(*EXAMPLE) + 19 * (variant("s") + count("m")) + size()
        self.assertEqual(answers(calls), [2, 0, 3] + 19 * [1, 1, 2, 5, 34] + [4, 3, 1, 2, 1])

    def test_long_list(self):
        text = 100 * (199 * "a" + "\n")
        calls = read(text) + read(text[:9900]) + 38 * size()
        self.assertLessEqual(len(calls), 30000)
        self.assertEqual(answers(calls), [2, 0, 100, 2, 50, 1] + 38 * [4, 100, 0, 0, 0])

    def test_list_is_left_as_it_was(self):
        calls = read_lines(*EXAMPLE) + variant("s t") + file("m") + home(1, 4, "m") + where(0, 2, 0, 1, "m")
        calls += argument(0, 1, 1, 0, 0, "m") + count("m") + read("@") + size()
        before = list(calls)
        first = answers(calls)
        self.assertEqual(calls, before)
        first.append(7)
        first[0] = 7
        self.assertEqual(calls, before)

    def test_nothing_is_kept(self):
        calls = size() + file("m") + read_lines(*EXAMPLE) + variant("s") + file("m") + size()
        first = answers(calls)
        self.assertEqual(answers(calls), first)
        self.assertEqual(answers(size() + file("m") + variant("s")), [4, 0, 0, 0, 0, 1, -3, 1, 0])
        first.clear()
        self.assertEqual(answers(calls)[:7], [4, 0, 0, 0, 0, 1, -3])

    def test_answers_are_whole_numbers(self):
        calls = read_lines(*EXAMPLE) + variant("s") + file("m") + home(1, 4, "m") + where(0, 2, 0, 1, "m") + size()
        given = answers(calls)
        self.assertIs(type(given), list)
        self.assertEqual({type(number) for number in given}, {int})

    def test_nothing_is_printed(self):
        out = io.StringIO()
        with contextlib.redirect_stdout(out), contextlib.redirect_stderr(out):
            answers(read_lines(*EXAMPLE) + file("m") + read("@"))
        self.assertEqual(out.getvalue(), "")

    def test_path_is_compared_byte_by_byte(self):
        self.assertEqual(last(read_lines(*TEXT), file(listed("m"))), [0, 2, 120, 10])
        self.assertEqual(answers(read_lines(*TEXT) + [2] + with_length("M")), [2, 0, 1, 1, -3])


class Large(unittest.TestCase):
    """What is as long as the input may be is answered all the same."""

    def test_where_with_many_places(self):
        lines = ["@file m"] + 15 * [50 * "@{a}"] + ["@end", "@chunk a", "x", "@end"]
        pairs = last(read_lines(*lines), where(1, 0, 0, 0, "m"))
        self.assertEqual(pairs, [750] + [number for line in range(15) for column in range(50)
                                         for number in (line, column)])

    def test_most_bytes_that_can_be_followed(self):
        # 800 lines of 50 parameters, 40 bytes each: far more than a file may have.
        lines = ["@file m"] + 7 * ["@{a(%s)}" % (40 * "x")] + ["@end"]
        lines += ["@chunk a(p)"] + 15 * [50 * "@<p>"] + 40 * ["@{b(%s)}" % (40 * "y")] + ["@end"]
        lines += ["@chunk b(p)", 50 * "@<p>", "@end"]
        given = answers(read_lines(*lines) + 10 * (variant("") + file("m")))
        self.assertEqual(given, [2, 0, 3] + 10 * [1, 0, 4, 6, 0, 0, 0])


if __name__ == "__main__":
    unittest.main()
