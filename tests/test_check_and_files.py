import unittest

from tests.support import (EXAMPLE, ask, check, ended, file, files, files_answer, last, read, read_lines, size,
                           text_answer, variant)

SIMPLE = ["@file m", "ab", "", "cd", "@end"]
BROKEN = ["@file m", "@{none}", "@end"]


class Check(unittest.TestCase):
    def differs(self, text, line, column, document=SIMPLE):
        self.assertEqual(last(read_lines(*document), check("m", text)), [0, line, column], text)

    def same(self, text, document=SIMPLE):
        self.assertEqual(last(read_lines(*document), check("m", text)), [1, 0, 0])

    def test_same_text(self):
        self.same("ab\n\ncd\n")
        self.same("", ["@file m", "@end"])
        self.same("\n", ["@file m", "", "@end"])

    def test_example(self):
        off = ended(["a", "  f(x, x);", "  one", "", "  f(, )"])
        on = ended(["a", "  f(x, x);", "  one", "   two", "  f(, )"])
        given = ask(read_lines(*EXAMPLE), check("m", off), check("m", on), variant("s"), check("m", off),
                    check("m", on))
        self.assertEqual(given[1:], [[1, 0, 0], [0, 3, 0], [1], [0, 3, 0], [1, 0, 0]])

    def test_other_byte(self):
        self.differs("xb\n\ncd\n", 0, 0)
        self.differs("ax\n\ncd\n", 0, 1)
        self.differs("ab\n\nxd\n", 2, 0)
        self.differs("ab\n\ncx\n", 2, 1)
        self.differs("xb\n\ncx\n", 0, 0)
        self.differs([97, 98, 10, 10, 99, 255, 10], 2, 1)
        self.differs([97, 98, 10, 10, 99, 0, 10], 2, 1)

    def test_byte_10_in_one_of_them(self):
        self.differs("abx\ncd\n", 0, 2)
        self.differs("ab\nx\ncd\n", 1, 0)
        self.differs("ab\n\ncdx", 2, 2)
        self.differs("\nb\n\ncd\n", 0, 0)
        self.differs("a\n\n\ncd\n", 0, 1)
        self.differs("ab\n\n\ncd\n", 2, 0)
        self.differs("ab\ncd\n", 1, 0)

    def test_text_ends_earlier(self):
        whole = "ab\n\ncd\n"
        ends = [(0, 0), (0, 1), (0, 2), (1, 0), (2, 0), (2, 1), (2, 2)]
        for length, place in enumerate(ends):
            self.differs(whole[:length], *place)

    def test_text_goes_on(self):
        self.differs("ab\n\ncd\nx", 3, 0)
        self.differs("ab\n\ncd\n\n", 3, 0)
        self.differs("ab\n\ncd\nxyz\n", 3, 0)
        self.differs("x", 0, 0, ["@file m", "@end"])
        self.differs("\n", 0, 0, ["@file m", "@end"])

    def test_empty_text(self):
        self.differs("", 0, 0)

    def test_longest_text(self):
        # A chunk that is used again and again, as the document's own text would be too long.
        lines = ["@file m"] + 9 * ["@{a}"] + [100 * "x", "@end", "@chunk a"] + 11 * [200 * "x"] + ["@end"]
        text = ended(99 * [200 * "x"] + [100 * "x"])
        self.assertEqual(len(text), 20000)
        self.same(text, lines)
        self.differs(text + 4000 * "\n", 100, 0, lines)
        self.differs(text[:-2], 99, 99, lines)

    def test_capitals_and_blanks_differ(self):
        self.differs("AB\n\nCD\n", 0, 0)
        self.differs("ab \n\ncd\n", 0, 2)
        self.differs(" ab\n\ncd\n", 0, 0)

    def test_no_file(self):
        for path in ("", "n", "mm", [0], [255], 100 * "m"):
            self.assertEqual(last(read_lines(*SIMPLE), check(path, "ab\n\ncd\n")), [-3])
        self.assertEqual(last(read_lines(*BROKEN), check("n", "")), [-3])

    def test_not_made(self):
        self.assertEqual(last(read_lines(*BROKEN), check("m", "")), [-4])
        lines = ["@file m", "@if s", "@{none}", "@fi", "@end"]
        given = ask(read_lines(*lines), check("m", ""), variant("s"), check("m", ""))
        self.assertEqual(given[1::2], [[1, 0, 0], [-4]])

    def test_each_fault_refuses(self):
        for document in FAULTY:
            self.assertEqual(last(read_lines(*document), check("m", "")), [-4])

    def test_new_object(self):
        self.assertEqual(ask(check("m", ""), check("", "")), [[-3], [-3]])

    def test_two_rows_are_handed_in(self):
        # What stands behind the first row is the second, also where the first is empty.
        given = ask(read_lines(*SIMPLE), check("", "m"), check("m", "m"), size())
        self.assertEqual(given[1:], [[-3], [0, 0, 0], [1, 1, 0, 0]])

    def test_asking_changes_nothing(self):
        given = ask(read_lines(*SIMPLE), check("m", "zz"), check("n", ""), file("m"), size())
        self.assertEqual(given[3:], [text_answer(["ab", "", "cd"]), [1, 1, 0, 0]])


# One document for each reason for which a file can't be made, 1 to 6.
FAULTY = (
    BROKEN,
    ["@file m", "@{a}", "@end", "@chunk a(p)", "@end"],
    ["@file m", "@{a}", "@end", "@chunk a", "@{a}", "@end"],
    ["@file m"] + 17 * [50 * "@{a}"] + ["@end", "@chunk a", "x", "@end"],
    ["@file m", "x@{a}", "@end", "@chunk a", "1", "2", "@end"],
    ["@file m"] + 3 * ["@{a}"] + ["@end", "@chunk a"] + 134 * ["x"] + ["@end"],
)


class Files(unittest.TestCase):
    def files_are(self, lines, *entries, settings=""):
        self.assertEqual(last(read_lines(*lines), variant(settings), files()), files_answer(*entries))

    def test_example(self):
        self.files_are(EXAMPLE, ("m", 1))

    def test_answer_as_it_is_told(self):
        self.assertEqual(last(read_lines("@file a/b", "@end", "@file c", "@{d}", "@end"), files()),
                         [2, 3, 97, 47, 98, 1, 1, 99, 0])

    def test_no_file(self):
        self.files_are(["prose", "@chunk a", "x", "@end"])
        self.assertEqual(ask(files(), read(""), files()), [[0], [0, 0], [0]])

    def test_order_in_which_files_first_come(self):
        lines = ["@file z", "@end", "@chunk a", "@end", "@file b", "@end", "prose", "@file z", "@end", "@file a",
                 "@end", "@file b", "@end", "@file B", "@end"]
        self.files_are(lines, ("z", 1), ("b", 1), ("a", 1), ("B", 1))

    def test_each_reason_for_which_a_file_can_not_be_made(self):
        for reason, document in enumerate(FAULTY, start=1):
            self.assertEqual(last(read_lines(*document), file("m"))[0], reason)
            self.files_are(document + ["@file n", "x", "@end"], ("m", 0), ("n", 1))

    def test_fault_in_a_later_part(self):
        self.files_are(["@file m", "x", "@end", "@file n", "@end", "@file m", "@{none}", "@end"], ("m", 0), ("n", 1))

    def test_variant(self):
        lines = ["@file m", "@if s", "@{none}", "@fi", "@end", "@file n", "@if s", "@else", "x@{a}", "@fi", "@end",
                 "@chunk a", "1", "@if t", "2", "@fi", "@end"]
        self.files_are(lines, ("m", 1), ("n", 1))
        self.files_are(lines, ("m", 0), ("n", 1), settings="s")
        self.files_are(lines, ("m", 1), ("n", 0), settings="t")
        self.files_are(lines, ("m", 0), ("n", 1), settings="s t")

    def test_variant_and_document_are_looked_at_anew(self):
        lines = ["@file m", "@if s", "@{none}", "@fi", "@end"]
        given = ask(read_lines(*lines), files(), variant("s"), files(), read("@"), files(),
                    read_lines("@file m", "@end"), files(), read_lines("x"), files())
        self.assertEqual(given[1::2], [files_answer(("m", 1)), files_answer(("m", 0)), files_answer(("m", 0)),
                                       files_answer(("m", 1)), [0]])

    def test_sixty_files(self):
        paths = ["%02d" % number + 38 * "x" for number in range(60)]
        lines = [line for path in paths for line in ("@file " + path, "@{" + path[:1] + "}", "@end")]
        self.files_are(lines, *[(path, 0) for path in paths])
        self.files_are([line for line in lines if line[:2] != "@{"], *[(path, 1) for path in paths])

    def test_asking_changes_nothing(self):
        given = ask(read_lines(*EXAMPLE), variant("s"), files(), size(), files(), file("m"))
        self.assertEqual(given[2], given[4])
        self.assertEqual(given[3], [3, 1, 2, 1])
        self.assertEqual(given[5], text_answer(["a", "  f(x, x);", "  one", "   two", "  f(, )"]))


if __name__ == "__main__":
    unittest.main()
