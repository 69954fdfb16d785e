import unittest

from tests.support import EXAMPLE, ask, last, reached, read, read_lines, texts_answer, variant


def chunk(header, *lines):
    return ["@chunk " + header] + list(lines) + ["@end"]


def file_part(*lines):
    return ["@file m"] + list(lines) + ["@end"]


class Reached(unittest.TestCase):
    def reaches(self, lines, *names, settings="", path="m"):
        self.assertEqual(last(read_lines(*lines), variant(settings), reached(path)), texts_answer(*names))

    def test_example(self):
        self.reaches(EXAMPLE, "b", "c")

    def test_answer_as_it_is_told(self):
        self.assertEqual(last(read_lines(*file_part("@{a}@{b 1}")), reached("m")), [2, 1, 97, 3, 98, 32, 49])

    def test_no_use(self):
        self.reaches(file_part())
        self.reaches(file_part("", "x", "@@{a}") + chunk("a"))
        self.assertEqual(last(read_lines(*file_part("x")), reached("m")), [0])

    def test_order_in_which_names_first_come(self):
        self.reaches(file_part("x@{c}@{a}", "@{b}@{c}", "  @{a}") + chunk("a") + chunk("b") + chunk("c"),
                     "c", "a", "b")

    def test_names_of_the_file_come_ahead_of_those_of_chunks(self):
        document = file_part("@{a}", "@{b}") + chunk("a", "@{d}", "@{c}@{b}") + chunk("b", "@{e}@{c}")
        document += chunk("c", "@{g}") + chunk("d", "@{f}") + chunk("e", "@{a}")
        self.reaches(document, "a", "b", "d", "c", "e", "f", "g")

    def test_names_are_gone_through_in_the_order_in_which_they_were_told(self):
        # The document tells z ahead of y, and the chunks against the order of the uses.
        document = chunk("b", "@{z}") + chunk("a", "@{y}") + chunk("y", "@{w}") + chunk("z", "@{v}")
        self.reaches(document + file_part("@{a}@{b}"), "a", "b", "y", "z", "w", "v")

    def test_ring(self):
        document = file_part("@{a}") + chunk("a", "@{b}") + chunk("b", "@{c}") + chunk("c", "@{a}@{b}@{c}")
        self.reaches(document, "a", "b", "c")
        self.reaches(file_part("@{a}") + chunk("a", "@{a}", "@{a}"), "a")

    def test_name_without_a_part(self):
        self.reaches(file_part("@{a}", "@{none}") + chunk("a", "@{nothing}@{none}"), "a", "none", "nothing")
        self.reaches(file_part("@{no name}"), "no name")

    def test_number_of_arguments_does_not_matter(self):
        self.reaches(file_part("@{a(x)}", "@{a}") + chunk("a", "@{b}") + chunk("b(p)", "@{c}"), "a", "b", "c")

    def test_variant(self):
        document = file_part("@if s", "@{a}", "@else", "@{b}", "@fi", "@{c}")
        document += chunk("a", "@{d}") + chunk("b", "@if t", "@{e}", "@fi") + chunk("c", "@if s", "@{b}", "@fi")
        self.reaches(document, "b", "c")
        self.reaches(document, "a", "c", "d", "b", settings="s")
        self.reaches(document, "b", "c", "e", settings="t")
        self.reaches(document, "a", "c", "d", "b", "e", settings="s t")

    def test_variant_is_looked_at_anew(self):
        lines = file_part("@if s", "@{a}", "@fi")
        given = ask(read_lines(*lines), reached("m"), variant("s"), reached("m"), variant("t"), reached("m"))
        self.assertEqual(given[1::2], [[0], texts_answer("a"), [0]])

    def test_several_parts(self):
        document = (file_part("@{c}") + chunk("a", "@{d}") + ["prose", "@file n", "@{q}", "@end"] + file_part("@{a}")
                    + chunk("c") + chunk("a", "@{e}@{d}"))
        self.reaches(document, "c", "a", "d", "e")
        self.reaches(document, "q", path="n")

    def test_path_is_no_name(self):
        self.reaches(["@file a", "@{b}", "@end", "@file b", "@{c}", "@end"], "b", path="a")
        self.reaches(["@file a", "@{a}", "@end", "@chunk a", "@{c}", "@end"], "a", "c", path="a")

    def test_what_a_file_does_not_use(self):
        self.reaches(file_part("@{a}") + chunk("a") + chunk("b", "@{a}@{c}"), "a")

    def test_file_that_can_not_be_made(self):
        self.reaches(file_part("x@{a}", "@{b}") + chunk("a", "1", "2") + chunk("b", "@{c}"), "a", "b", "c")

    def test_deeper_than_uses_may_be_followed(self):
        document = file_part("@{c0}")
        for number in range(50):
            document += chunk("c%d" % number, "@{c%d}" % (number + 1))
        self.reaches(document, *["c%d" % number for number in range(51)])

    def test_many_names(self):
        small = "abcdefghijklmnopqrstuvwxyz0123456789"
        names = [first + second for first in small for second in small]
        rows = ["".join(["@{" + name + "}" for name in names[at:at + 40]]) for at in range(0, len(names), 40)]
        self.reaches(file_part(*rows), *names)

    def test_no_file(self):
        for path in ("", "n", "a", "mm", "m\n", [0], [255], 100 * "m"):
            self.assertEqual(last(read_lines(*(file_part("@{a}") + chunk("a"))), reached(path)), [-3], path)

    def test_new_object(self):
        self.assertEqual(ask(reached("m"), reached("")), [[-3], [-3]])

    def test_document_that_is_held(self):
        given = ask(read_lines(*file_part("@{a}")), read("@"), reached("m"), read_lines("@file n", "@{b}", "@end"),
                    reached("m"), reached("n"))
        self.assertEqual(given[2::2] + given[5:], [texts_answer("a"), [-3], texts_answer("b")])


if __name__ == "__main__":
    unittest.main()
