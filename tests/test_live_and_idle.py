import unittest

from tests.support import EXAMPLE, ask, idle, last, live, pairs_answer, read, read_lines, size, variant

FAR = (-2147483648, -1, 2147483647)

NESTED = ["prose", "@file m", "0", "@if s", "2", "@if t", "4", "@else", "6", "@fi", "8", "@else", "10", "@if t", "12",
          "@fi", "14", "@fi", "16", "@end"]
CODE_LINES = (0, 2, 4, 6, 8, 10, 12, 14, 16)


class Live(unittest.TestCase):
    def live_lines(self, settings):
        given = ask(read_lines(*NESTED), variant(settings), *[live(1, line) for line in CODE_LINES])[2:]
        for answer in given:
            self.assertIn(answer, ([0], [1]))
        return [line for line, answer in zip(CODE_LINES, given) if answer == [1]]

    def test_nested_conditions(self):
        self.assertEqual(self.live_lines(""), [0, 10, 14, 16])
        self.assertEqual(self.live_lines("s"), [0, 2, 6, 8, 16])
        self.assertEqual(self.live_lines("t"), [0, 10, 12, 14, 16])
        self.assertEqual(self.live_lines("s t"), [0, 2, 4, 8, 16])
        self.assertEqual(self.live_lines("st x"), [0, 10, 14, 16])

    def test_example(self):
        lines = [live(2, line) for line in (0, 2, 4, 6)]
        given = ask(read_lines(*EXAMPLE), *lines, variant("s"), *lines)[1:]
        self.assertEqual(given, [[1], [0], [1], [1], [1], [1], [1], [0], [1]])

    def test_six_conditions(self):
        lines = ["@file m"] + ["@if s%d" % number for number in range(6)] + ["x"] + 6 * ["@fi"] + ["@end"]
        given = ask(read_lines(*lines), live(0, 6), variant("s0 s1 s2 s3 s4 s5"), live(0, 6),
                    variant("s1 s2 s3 s4 s5"), live(0, 6), variant("s0 s1 s2 s3 s4"), live(0, 6))
        self.assertEqual(given[1::2], [[0], [1], [0], [0]])

    def test_one_setting_twice(self):
        lines = ["@file m", "@if s", "@if s", "x", "@else", "y", "@fi", "@else", "@if s", "z", "@else", "w", "@fi",
                 "@fi", "@end"]
        places = [live(0, line) for line in (2, 4, 8, 10)]
        given = ask(read_lines(*lines), *places, variant("s"), *places)[1:]
        self.assertEqual(given, [[0], [0], [0], [1], [1], [1], [0], [0], [0]])

    def test_conditions_end_with_their_part(self):
        lines = ["@chunk a", "@if s", "x", "@fi", "@end", "@chunk a", "y", "@end"]
        self.assertEqual(ask(read_lines(*lines), live(0, 1), live(1, 0))[1:], [[0], [1]])

    def test_line_of_a_chunk_that_no_file_reaches(self):
        self.assertEqual(last(read_lines("@chunk a", "x", "@end"), live(0, 0)), [1])

    def test_line_without_pieces(self):
        self.assertEqual(last(read_lines("@chunk a", "", "@end"), live(0, 0)), [1])

    def test_condition_lines_are_no_code_lines(self):
        conditions = [number for number in range(17) if number not in CODE_LINES]
        for line in conditions:
            for settings in ("", "s t"):
                self.assertEqual(last(read_lines(*NESTED), variant(settings), live(1, line)), [-2], line)

    def test_no_line(self):
        places = [(0, 0), (1, 17), (1, -1), (1, -17), (2, 0), (-1, 0), (-2, 0)]
        places += [(far, 0) for far in FAR] + [(1, far) for far in FAR] + [(far, far) for far in FAR]
        for block, line in places:
            self.assertEqual(last(read_lines(*NESTED), live(block, line)), [-2], (block, line))
        self.assertEqual(last(read_lines("@file m", "@end"), live(0, 0)), [-2])

    def test_new_object(self):
        self.assertEqual(ask(live(0, 0), variant("s"), live(0, 0)), [[-2], [0], [-2]])

    def test_document_that_is_held(self):
        given = ask(read_lines("@file m", "x", "@end"), live(0, 0), read("@"), live(0, 0), read_lines("x"), live(0, 0))
        self.assertEqual(given[1::2], [[1], [1], [-2]])


class Idle(unittest.TestCase):
    def idle_are(self, lines, *pairs, settings=""):
        self.assertEqual(last(read_lines(*lines), variant(settings), idle()), pairs_answer(*pairs))

    def test_example(self):
        given = ask(read_lines(*EXAMPLE), idle(), variant("s"), idle(), variant(""), idle())
        self.assertEqual(given[1::2], [[1, 2, 2], [1, 2, 4], [1, 2, 2]])

    def test_new_object(self):
        self.assertEqual(ask(idle()), [[0]])

    def test_nothing_is_idle(self):
        self.idle_are(["prose", "@file m", "a", "@{b}", "", "@end", "@chunk b", "x", "@end", "@file n", "@end"])

    def test_no_file(self):
        self.idle_are(["prose", "@chunk a", "x", "@if s", "@{b}", "@fi", "", "@end", "@chunk b", "y", "@end"],
                      (1, 0), (1, 2), (1, 4), (2, 0))
        self.idle_are(["prose"])

    def test_lines_behind_an_else(self):
        lines = ["@file m", "@if s", "on", "@else", "off", "also off", "@fi", "@end"]
        self.idle_are(lines, (0, 1))
        self.idle_are(lines, (0, 3), (0, 4), settings="s")

    def test_condition_lines_are_not_told(self):
        self.idle_are(NESTED, (1, 2), (1, 4), (1, 6), (1, 8), (1, 12))
        self.idle_are(NESTED, (1, 6), (1, 10), (1, 12), (1, 14), settings="t s")
        self.idle_are(["@chunk a", "@if s", "@else", "@fi", "@end"])

    def test_chunk_that_only_an_idle_chunk_uses(self):
        self.idle_are(["@chunk c", "z", "@end", "@file m", "x", "@end", "@chunk b", "y@{c}", "@end"], (0, 0), (2, 0))

    def test_chunks_that_use_each_other_but_no_file_reaches(self):
        self.idle_are(["@file m", "@end", "@chunk a", "@{b}", "@end", "@chunk b", "@{a}", "@end"], (1, 0), (2, 0))

    def test_chunk_that_only_a_line_which_is_not_live_uses(self):
        lines = ["@file m", "@if s", "@{a}", "@fi", "@end", "@chunk a", "x@{b}", "@end", "@chunk b", "y", "@end"]
        self.idle_are(lines, (0, 1), (1, 0), (2, 0))
        self.idle_are(lines, settings="s")

    def test_line_of_a_reached_chunk_that_is_not_live_reaches_nothing(self):
        lines = ["@file m", "@{a}", "@end", "@chunk a", "@if s", "@{b}", "@fi", "@end", "@chunk b", "y", "@end"]
        self.idle_are(lines, (1, 1), (2, 0))
        self.idle_are(lines, settings="s")

    def test_every_file_counts(self):
        self.idle_are(["@file m", "@{a}", "@end", "@chunk a", "x", "@end", "@chunk b", "x", "@end", "@chunk c", "x",
                       "@end", "@file n", "@{b}", "@end"], (3, 0))

    def test_every_part_of_a_chunk_and_of_a_file(self):
        self.idle_are(["@chunk a", "1", "@end", "@chunk b", "2", "@end", "@file m", "@end", "@chunk a", "3", "@end",
                       "@chunk b", "4", "@end", "@file m", "@{a}", "@end"], (1, 0), (4, 0))

    def test_file_that_can_not_be_made_reaches_all_the_same(self):
        self.idle_are(["@file m", "@{none}", "@{a(x)}", "@{b}", "@end", "@chunk a", "x", "@end", "@chunk b", "@{b}",
                       "y", "@end"])

    def test_path_is_no_name(self):
        self.idle_are(["@file a", "x", "@end", "@chunk a", "y", "@end"], (1, 0))

    def test_line_that_is_neither_live_nor_reached_is_told_once(self):
        self.idle_are(["@chunk a", "@if s", "x", "@fi", "@end"], (0, 1))

    def test_asking_changes_nothing(self):
        given = ask(read_lines(*EXAMPLE), variant("s"), size(), idle(), live(2, 2), size(), idle())
        self.assertEqual(given[2], given[5])
        self.assertEqual(given[3], given[6])

    def test_most_lines(self):
        lines = ["@chunk a"] + 400 * ["x"] + ["@end"]
        self.idle_are(lines, *[(0, line) for line in range(400)])


if __name__ == "__main__":
    unittest.main()
