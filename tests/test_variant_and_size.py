import unittest

from tests.support import EXAMPLE, ask, file, last, read_lines, size, text_answer, variant

TWO_SETTINGS = ["@file m", "@if s", "on", "@fi", "@if t", "@fi", "@if s", "@fi", "@end"]


class Variant(unittest.TestCase):
    def refused(self, settings):
        given = ask(read_lines(*TWO_SETTINGS), variant("s"), variant(settings), size(), file("m"))
        self.assertEqual(given[2:], [[-1], [1, 1, 0, 1], text_answer(["on"])], settings)

    def test_how_many_are_settings_of_the_document(self):
        for settings, number in (("", 0), ("s", 1), ("t", 1), ("s t", 2), ("x", 0), ("x t y", 1), ("t u s", 2)):
            with self.subTest(settings):
                self.assertEqual(last(read_lines(*TWO_SETTINGS), variant(settings)), [number])

    def test_new_object_has_no_settings(self):
        self.assertEqual(ask(variant("a b"), size()), [[0], [0, 0, 0, 2]])

    def test_ten_and_eleven(self):
        ten = "a b c d e f g h i s"
        self.assertEqual(ask(read_lines(*TWO_SETTINGS), variant(ten), size())[1:], [[1], [1, 1, 0, 10]])
        self.refused(ten + " t")

    def test_two_alike(self):
        self.refused("s s")
        self.refused("t s u s")
        self.assertEqual(last(read_lines(*TWO_SETTINGS), variant("s ss")), [1])

    def test_blanks(self):
        for settings in (" ", "s  t", " s", "s ", " s t", "s t ", "  "):
            self.refused(settings)

    def test_no_short_names(self):
        for settings in ("S", "1", "1s", "s-t", "s,t", "s\n", "s\tt", "s\n t", "a123456789012", "s T", [255], [0]):
            self.refused(settings)
        self.assertEqual(last(variant("a12345678901")), [0])

    def test_another_variant_takes_the_place_of_the_first(self):
        given = ask(read_lines(*TWO_SETTINGS), variant("s x"), file("m"), variant("t"), size(), file("m"),
                    variant(""), size())
        self.assertEqual(given[2:], [text_answer(["on"]), [1], [1, 1, 0, 1], text_answer([]), [0], [1, 1, 0, 0]])

    def test_variant_ahead_of_read(self):
        self.assertEqual(ask(variant("s"), read_lines(*TWO_SETTINGS), file("m"))[2], text_answer(["on"]))


class Size(unittest.TestCase):
    def size_of(self, *lines):
        return last(read_lines(*lines), size())

    def test_new_object(self):
        self.assertEqual(ask(size()), [[0, 0, 0, 0]])

    def test_example(self):
        self.assertEqual(self.size_of(*EXAMPLE), [3, 1, 2, 0])

    def test_prose_counts_as_blocks_alone(self):
        self.assertEqual(self.size_of("a", "@@{b}", "", "@@file m"), [4, 0, 0, 0])

    def test_files_count_once(self):
        self.assertEqual(self.size_of("@file m", "@end", "@file n", "@end", "@file m", "@end"), [3, 2, 0, 0])

    def test_names_of_parts_and_of_uses_count_once(self):
        self.assertEqual(self.size_of("@chunk a", "@{b}@{a}", "@{c(x)}", "@end", "@chunk a", "@{b(y)}", "@end",
                                      "@file d", "@{e}", "@end"), [3, 1, 4, 0])

    def test_uses_in_lines_that_are_not_live_count(self):
        self.assertEqual(self.size_of("@file m", "@if s", "@{a}", "@else", "@{b}", "@fi", "@end"), [1, 1, 2, 0])

    def test_paths_are_no_names(self):
        self.assertEqual(self.size_of("@file a", "@end", "@chunk a", "@end"), [2, 1, 1, 0])

    def test_settings_that_the_document_lacks_count(self):
        self.assertEqual(last(read_lines(*TWO_SETTINGS), variant("x s y"), size()), [1, 1, 0, 3])


if __name__ == "__main__":
    unittest.main()
