import builtins
import contextlib
import io
import unittest
from unittest import mock

from tangledfiles.document import answers
from tests.support import (EXAMPLE, argument, check, count, ended, file, files, files_answer, home, idle, last, listed,
                           live, reached, read, read_lines, size, split_answers, text_answer, texts_answer, variant,
                           where, with_length)

TEXT = [
    "@file m", "x", "@end",
]


WITHOUT_S = ["a", "  f(x, x);", "  one", "", "  f(, )"]
WITH_S = ["a", "  f(x, x);", "  one", "   two", "  f(, )"]

# Forty calls, all thirteen among them, each with what it answers.
MIXED = (
    (size(), [0, 0, 0, 0]),
    (files(), [0]),
    (idle(), [0]),
    (read_lines(*EXAMPLE), [0, 3]),
    (size(), [3, 1, 2, 0]),
    (files(), files_answer(("m", 1))),
    (file("m"), text_answer(WITHOUT_S)),
    (count("m"), [5, 28]),
    (home(1, 4, "m"), [120, 1, 0, 1, 1, 0, 0, 1, 0, 1, 1, 0, 1, 1]),
    (where(0, 2, 0, 1, "m"), [1, 2, 1]),
    (home(4, 0, "m"), [32, 2, 0, 2, 1, 0]),
    (argument(0, 1, 1, 0, 0, "m"), [2, 1, 4, 1, 7]),
    (idle(), [1, 2, 2]),
    (live(2, 2), [0]),
    (live(2, 4), [1]),
    (live(2, 1), [-2]),
    (reached("m"), texts_answer("b", "c")),
    (reached("n"), [-3]),
    (check("m", ended(WITHOUT_S)), [1, 0, 0]),
    (check("m", ended(WITH_S)), [0, 3, 0]),
    (variant("s"), [1]),
    (idle(), [1, 2, 4]),
    (file("m"), text_answer(WITH_S)),
    (live(2, 2), [1]),
    (live(2, 4), [0]),
    (check("m", ended(WITH_S)), [1, 0, 0]),
    (check("m", ""), [0, 0, 0]),
    (where(2, 2, 0, 1, "m"), [1, 3, 3]),
    (count("m"), [5, 34]),
    (size(), [3, 1, 2, 1]),
    (variant("s s"), [-1]),
    (read_lines("@end"), [1, 2]),
    (size(), [3, 1, 2, 1]),
    (read_lines("@file m", "@{b}", "@end", "@file n", "@if s", "y", "@fi", "@end"), [0, 2]),
    (files(), files_answer(("m", 0), ("n", 1))),
    (check("m", ""), [-4]),
    (home(0, 0, "m"), [-4]),
    (file("m"), [1, 0, 0, 0]),
    (reached("m"), texts_answer("b")),
    (argument(0, 0, 0, 0, 0, "n"), [-2]),
)


def mixed_calls():
    return [number for call, answer in MIXED for number in call]


def refuse(*told, **named):
    raise AssertionError("a list that is handed in was changed, or something was read or imported")


class Unchanged(list):
    """A list that can be read, and fails as soon as it is changed."""

    append = extend = insert = pop = remove = clear = sort = reverse = refuse
    __setitem__ = __delitem__ = __iadd__ = __imul__ = refuse


class AllCalls(unittest.TestCase):
    def test_forty_calls_of_all_kinds(self):
        self.assertEqual(len(MIXED), 40)
        self.assertEqual({call[0] for call, answer in MIXED}, set(range(13)))
        self.assertEqual(split_answers(answers(mixed_calls())), [answer for call, answer in MIXED])

    def test_list_is_left_as_it_was(self):
        calls = mixed_calls()
        answers(calls)
        self.assertEqual(calls, mixed_calls())

    def test_list_is_not_changed_for_a_while(self):
        self.assertEqual(answers(Unchanged(mixed_calls())), answers(mixed_calls()))

    def test_nothing_is_kept(self):
        first = answers(mixed_calls())
        self.assertEqual(answers(mixed_calls()), first)
        self.assertEqual(answers(idle() + files() + live(0, 0) + reached("m") + check("m", "") + size()),
                         [1, 0, 1, 0, 1, -2, 1, -3, 1, -3, 4, 0, 0, 0, 0])

    def test_answers_are_whole_numbers(self):
        self.assertEqual({type(number) for number in answers(mixed_calls())}, {int})

    def test_nothing_is_printed_read_or_imported(self):
        calls = mixed_calls()
        out = io.StringIO()
        with contextlib.redirect_stdout(out), contextlib.redirect_stderr(out):
            with mock.patch.object(builtins, "open", refuse), mock.patch.object(builtins, "input", refuse):
                with mock.patch.object(builtins, "__import__", refuse):
                    given = answers(calls)
        self.assertEqual(out.getvalue(), "")
        self.assertEqual(given, answers(calls))


class Lists(unittest.TestCase):
    def test_each_answer_stands_behind_its_length(self):
        calls = (size() + read_lines(*TEXT) + file("m") + file("n") + count("m") + variant("s") + variant("S")
                 + home(0, 0, "m") + where(0, 0, 0, 0, "m") + argument(0, 0, 0, 0, 0, "m") + read("@") + size())
        self.assertEqual(answers(calls), [
            4, 0, 0, 0, 0,
            2, 0, 1,
            4, 0, 2, 120, 10,
            1, -3,
            2, 1, 2,
            1, 0,
            1, -1,
            7, 120, 0, 0, 0, 0, 0, 0,
            3, 1, 0, 0,
            1, -2,
            2, 1, 1,
            4, 1, 1, 0, 1,
        ])

    def test_calls_as_they_are_told(self):
        self.assertEqual(answers([0, 0]), [2, 0, 0])
        self.assertEqual(answers([0, 2, 97, 10, 12]), [2, 0, 1, 4, 1, 0, 0, 0])
        self.assertEqual(answers([1, 3, 97, 32, 98]), [1, 0])
        self.assertEqual(answers([2, 0]), [1, -3])
        self.assertEqual(answers([3, 1, 97]), [1, -3])
        self.assertEqual(answers([4, 7, 8, 1, 97]), [1, -3])
        self.assertEqual(answers([5, 1, 2, 3, 4, 1, 97]), [1, -2])
        self.assertEqual(answers([6, 1, 2, 3, 4, 5, 1, 97]), [1, -2])
        self.assertEqual(answers([7, 1, 2]), [1, -2])
        self.assertEqual(answers([8, 1, 97]), [1, -3])
        self.assertEqual(answers([9]), [1, 0])
        self.assertEqual(answers([10, 1, 97, 2, 97, 10]), [1, -3])
        self.assertEqual(answers([11]), [1, 0])
        self.assertEqual(answers([12]), [4, 0, 0, 0, 0])

    def test_forty_calls(self):
        calls = read_lines(*EXAMPLE) + 19 * (variant("s") + count("m")) + size()
        self.assertEqual(answers(calls), [2, 0, 3] + 19 * [1, 1, 2, 5, 34] + [4, 3, 1, 2, 1])

    def test_long_list(self):
        text = 100 * (199 * "a" + "\n")
        calls = read(text) + read(text[:9900]) + 38 * size()
        self.assertLessEqual(len(calls), 30000)
        self.assertEqual(answers(calls), [2, 0, 100, 2, 50, 1] + 38 * [4, 100, 0, 0, 0])

    def test_list_is_left_as_it_was(self):
        calls = read_lines(*EXAMPLE) + variant("s t") + file("m") + home(1, 4, "m") + where(0, 2, 0, 1, "m")
        calls += argument(0, 1, 1, 0, 0, "m") + count("m") + read("@") + size()
        before = list(calls)
        first = answers(calls)
        self.assertEqual(calls, before)
        first.append(7)
        first[0] = 7
        self.assertEqual(calls, before)

    def test_nothing_is_kept(self):
        calls = size() + file("m") + read_lines(*EXAMPLE) + variant("s") + file("m") + size()
        first = answers(calls)
        self.assertEqual(answers(calls), first)
        self.assertEqual(answers(size() + file("m") + variant("s")), [4, 0, 0, 0, 0, 1, -3, 1, 0])
        first.clear()
        self.assertEqual(answers(calls)[:7], [4, 0, 0, 0, 0, 1, -3])

    def test_answers_are_whole_numbers(self):
        calls = read_lines(*EXAMPLE) + variant("s") + file("m") + home(1, 4, "m") + where(0, 2, 0, 1, "m") + size()
        given = answers(calls)
        self.assertIs(type(given), list)
        self.assertEqual({type(number) for number in given}, {int})

    def test_nothing_is_printed(self):
        out = io.StringIO()
        with contextlib.redirect_stdout(out), contextlib.redirect_stderr(out):
            answers(read_lines(*EXAMPLE) + file("m") + read("@"))
        self.assertEqual(out.getvalue(), "")

    def test_path_is_compared_byte_by_byte(self):
        self.assertEqual(last(read_lines(*TEXT), file(listed("m"))), [0, 2, 120, 10])
        self.assertEqual(answers(read_lines(*TEXT) + [2] + with_length("M")), [2, 0, 1, 1, -3])


class Large(unittest.TestCase):
    """What is as long as the input may be is answered all the same."""

    def test_where_with_many_places(self):
        lines = ["@file m"] + 15 * [50 * "@{a}"] + ["@end", "@chunk a", "x", "@end"]
        pairs = last(read_lines(*lines), where(1, 0, 0, 0, "m"))
        self.assertEqual(pairs, [750] + [number for line in range(15) for column in range(50)
                                         for number in (line, column)])

    def test_most_bytes_that_can_be_followed(self):
        # 800 lines of 50 parameters, 40 bytes each: far more than a file may have.
        lines = ["@file m"] + 7 * ["@{a(%s)}" % (40 * "x")] + ["@end"]
        lines += ["@chunk a(p)"] + 15 * [50 * "@<p>"] + 40 * ["@{b(%s)}" % (40 * "y")] + ["@end"]
        lines += ["@chunk b(p)", 50 * "@<p>", "@end"]
        given = answers(read_lines(*lines) + 10 * (variant("") + file("m")))
        self.assertEqual(given, [2, 0, 3] + 10 * [1, 0, 4, 6, 0, 0, 0])

    def test_check_of_texts_as_long_as_they_may_be(self):
        calls = read_lines(*TEXT) + check("m", 24000 * [10]) + check("m", "x\n" + 4000 * "x")
        self.assertLessEqual(len(calls), 30000)
        self.assertEqual(answers(calls), [2, 0, 1, 3, 0, 0, 0, 3, 0, 1, 0])

    def test_answers_of_many_numbers(self):
        lines = ["@file m"] + 9 * ["@{a}"] + [100 * "x", "@end", "@chunk a"] + 11 * [200 * "x"] + ["@end"]
        given = answers(read_lines(*lines) + 39 * file("m"))
        text = text_answer(99 * [200 * "x"] + [100 * "x"])
        self.assertEqual(given, [2, 0, 2] + 39 * ([len(text)] + text))


if __name__ == "__main__":
    unittest.main()
