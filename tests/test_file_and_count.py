import unittest

from tests.support import EXAMPLE, ask, count, file, last, made, read_lines, text_answer, variant


def chunk(header, *lines):
    return ["@chunk " + header] + list(lines) + ["@end"]


def file_part(*lines):
    return ["@file m"] + list(lines) + ["@end"]


class Following(unittest.TestCase):
    def gives(self, document, lines, settings=""):
        self.assertEqual(made(document, "m", settings), text_answer(lines))
        text = sum([len(line) + 1 for line in lines])
        self.assertEqual(last(read_lines(*document), variant(settings), count("m")), [len(lines), text])

    def test_example(self):
        self.gives(EXAMPLE, ["a", "  f(x, x);", "  one", "", "  f(, )"])
        self.gives(EXAMPLE, ["a", "  f(x, x);", "  one", "   two", "  f(, )"], "s")

    def test_literals(self):
        self.gives(file_part("a", "", "  ", " b ", "@@", "@@@@{c}", "~"), ["a", "", "  ", " b ", "@", "@@{c}", "~"])

    def test_file_without_lines(self):
        self.gives(file_part(), [])

    def test_alone_without_blanks(self):
        self.gives(file_part("a", "@{b}", "c") + chunk("b", "x", "", " y"), ["a", "x", "", " y", "c"])

    def test_alone_with_blanks(self):
        self.gives(file_part("   @{b}") + chunk("b", "x", "", " y", "  ", ""),
                   ["   x", "", "    y", "     ", ""])

    def test_alone_with_a_use_that_gives_no_line(self):
        self.gives(file_part("a", "@{b}", "  @{b}", "c") + chunk("b"), ["a", "c"])

    def test_indented_within_indented(self):
        self.gives(file_part(" @{b}", "z") + chunk("b", "x", "  @{c}", "", "@{c}") + chunk("c", "p", "", "q"),
                   [" x", "   p", "", "   q", "", " p", "", " q", "z"])

    def test_first_line_empty(self):
        self.gives(file_part("  @{b}") + chunk("b", "", "x"), ["", "  x"])

    def test_line_of_an_empty_argument_is_empty(self):
        self.gives(file_part("  @{b(, x)}") + chunk("b(p, q)", "@<p>", "@<p>@<p>", "@<q>"), ["", "", "  x"])

    def test_other_lines(self):
        document = file_part("a@{b}c", "@{b}@{b}", "@{b} ", "a @{b}", " @{b} @{b}") + chunk("b", "x")
        self.gives(document, ["axc", "xx", "x ", "a x", " x x"])

    def test_other_line_with_a_use_that_gives_no_line(self):
        self.gives(file_part("a@{b}c", "@{b}@{b}", "@{b} ", "x") + chunk("b"), ["ac", "", " ", "x"])

    def test_other_line_with_a_use_that_gives_an_empty_line(self):
        self.gives(file_part("a@{b}c", "@{b}@{b}", "  @{b}") + chunk("b", ""), ["ac", "", ""])

    def test_blanks_of_a_parameter_are_no_literal(self):
        # The literal has more than blanks, or the parameter stands between: these lines aren't alone with the use.
        self.gives(file_part("@{b()}") + chunk("b(p)", "@<p>@{c}", ".@{c}") + chunk("c", "  x"), ["  x", ".  x"])

    def test_use_in_a_line_keeps_the_blanks_of_its_line(self):
        self.gives(file_part("a@{b}") + chunk("b", "  @{c}") + chunk("c", "x"), ["a  x"])

    def test_arguments(self):
        document = file_part("@{b(x y, , <z>)}") + chunk("b(p, q, r)", "@<r>@<p>@<q>.@<q>@<p>@@")
        self.gives(document, ["<z>x y.x y@"])

    def test_no_argument_and_one_empty_argument(self):
        self.gives(file_part("@{b}", "@{c()}") + chunk("b", "x") + chunk("c(p)", "[@<p>]"), ["x", "[]"])
        self.assertEqual(made(file_part("@{b()}") + chunk("b", "x")), [2, 0, 0, 0])
        self.assertEqual(made(file_part("@{c}") + chunk("c(p)", "x")), [2, 0, 0, 0])

    def test_inner_use_has_its_own_arguments(self):
        document = file_part("@{b(1)}") + chunk("b(p)", "@<p>@{c(2)}@<p>") + chunk("c(p)", "(@<p>)")
        self.gives(document, ["1(2)1"])

    def test_several_parts(self):
        document = (file_part("a", "@{b}") + chunk("b", "x") + ["prose"] + ["@file n", "n", "@end"]
                    + file_part("c") + chunk("b", "y"))
        self.gives(document, ["a", "x", "y", "c"])
        self.assertEqual(made(document, "n"), text_answer(["n"]))

    def test_live_lines(self):
        document = file_part("0", "@if s", "1", "@if t", "2", "@else", "3", "@fi", "4", "@else", "5", "@if t", "6",
                             "@fi", "7", "@fi", "8")
        self.gives(document, ["0", "5", "7", "8"])
        self.gives(document, ["0", "1", "3", "4", "8"], "s")
        self.gives(document, ["0", "5", "6", "7", "8"], "t")
        self.gives(document, ["0", "1", "2", "4", "8"], "s t")
        self.gives(document, ["0", "5", "7", "8"], "st")

    def test_live_lines_of_a_chunk(self):
        document = file_part("a@{b}") + chunk("b", "@if s", "on", "@else", "off", "@fi")
        self.gives(document, ["aoff"])
        self.gives(document, ["aon"], "s")

    def test_variant_is_looked_at_anew(self):
        document = file_part("@if s", "on", "@fi")
        given = ask(read_lines(*document), file("m"), count("m"), variant("s"), file("m"), count("m"))
        self.assertEqual(given[1:], [text_answer([]), [0, 0], [1], text_answer(["on"]), [1, 3]])


class NoFile(unittest.TestCase):
    def test_no_such_path(self):
        for path in ("", "n", "mm", "b", "m\n", " m", [0], [255], 100 * "m"):
            given = ask(read_lines(*EXAMPLE), file(path), count(path))
            self.assertEqual(given[1:], [[-3], [-3]])

    def test_new_object(self):
        self.assertEqual(ask(file("m"), count("m"), file("")), [[-3], [-3], [-3]])


class Faults(unittest.TestCase):
    def fault(self, document, reason, place, settings=""):
        self.assertEqual(made(document, "m", settings), [reason] + place)
        self.assertEqual(last(read_lines(*document), variant(settings), count("m")), [-4])

    def test_no_chunk(self):
        self.fault(file_part("a", "b@{c}@{d}"), 1, [0, 1, 1])
        self.fault(["prose"] + file_part("a", "  @{c}"), 1, [1, 1, 1])
        self.fault(file_part("@{b}") + chunk("b", "@if s", "@{c(x)}", "@fi", "@{d(x)}"), 1, [1, 3, 0])
        self.fault(file_part("@{b}") + chunk("b", "@if s", "@{c(x)}", "@fi", "@{d(x)}"), 1, [1, 1, 0], "s")

    def test_file_is_no_chunk(self):
        self.fault(file_part("@{m}"), 1, [0, 0, 0])

    def test_chunk_without_live_lines_has_a_part(self):
        self.assertEqual(made(file_part("@{b}") + chunk("b", "@if s", "x", "@fi")), text_answer([]))

    def test_fault_in_a_line_that_is_not_live(self):
        self.assertEqual(made(file_part("@if s", "@{b}", "@fi")), text_answer([]))
        self.fault(file_part("@if s", "@{b}", "@fi"), 1, [0, 1, 0], "s")

    def test_number_of_arguments(self):
        for use in ("@{b}", "@{b(x)}", "@{b(x, y, z)}"):
            self.fault(file_part("a" + use) + chunk("b(p, q)", "x"), 2, [0, 0, 1])
        self.fault(file_part("@{b(x)}") + chunk("b"), 2, [0, 0, 0])

    def test_within_twenty_others(self):
        self.assertEqual(made(chain(20)), text_answer(["x"]))
        self.fault(chain(21), 3, [20, 0, 0])
        self.assertEqual(made(chain(20, ".@{%s}")), text_answer([20 * "." + "x"]))
        self.fault(chain(21, ".@{%s}"), 3, [20, 0, 1])

    def test_chunk_that_uses_itself(self):
        self.fault(file_part("@{a}") + chunk("a", "x", " @{a}"), 3, [1, 1, 1])
        self.fault(file_part("@{a}") + chunk("a", "@{b}") + chunk("b", "@{a}"), 3, [2, 0, 0])

    def test_order_of_the_reasons_of_one_use(self):
        self.fault(chain(20, "@{%s}", "@{none(x)}"), 1, [20, 0, 0])
        self.fault(chain(20, "@{%s}", "@{c1(x)}"), 2, [20, 0, 0])

    def test_lines_followed(self):
        self.assertEqual(made(followed(34)), text_answer(15 * [50 * "x"] + [34 * "x"]))
        # The chunk's line would be the 801st.
        self.fault(followed(35), 4, [1, 0, 0])
        # The file's line would be it.
        self.fault(followed(34, "y"), 4, [0, 16, 0])
        self.fault(followed(34, "  @{none}"), 4, [0, 16, 0])
        self.fault(followed(34, "@if s", "@fi", "", "y"), 4, [0, 18, 0])

    def test_use_without_lines_is_followed_after_800(self):
        self.assertEqual(made(followed(33, "@{b}@{b}@{b}") + chunk("b")),
                         text_answer(15 * [50 * "x"] + [33 * "x", ""]))

    def test_more_than_one_line_in_a_line(self):
        two = chunk("b", "x", "y")
        self.fault(file_part("a", "a@{b}") + two, 5, [0, 1, 1])
        self.fault(file_part("@{b}.") + two, 5, [0, 0, 0])
        self.fault(file_part(" @{b} ") + two, 5, [0, 0, 1])
        self.fault(file_part("@{b}@{b}") + two, 5, [0, 0, 0])
        self.fault(file_part("a@{c}") + two + chunk("c", "@{b}"), 5, [0, 0, 1])
        self.fault(file_part("@{c}") + two + chunk("c", "a@{b}"), 5, [2, 0, 1])
        self.fault(file_part("a@{b}") + chunk("b", "", ""), 5, [0, 0, 1])
        self.assertEqual(made(file_part("a@{b}") + chunk("b", "@if s", "x", "@else", "y", "@fi")), text_answer(["ay"]))

    def test_fault_within_comes_ahead_of_more_than_one_line(self):
        self.fault(file_part("a@{b}") + chunk("b", "x", "@{c}"), 1, [1, 1, 0])

    def test_first_fault_that_is_met(self):
        self.fault(file_part("@{b}", "@{none}") + chunk("b", "@{c(x)}") + chunk("c"), 2, [1, 0, 0])
        self.fault(file_part("a@{b}@{none}") + chunk("b", "x", "y"), 5, [0, 0, 1])

    def test_number_of_lines(self):
        hundred = chunk("b", *(100 * ["x"]))
        self.assertEqual(made(file_part(*(4 * ["@{b}"])) + hundred), text_answer(400 * ["x"]))
        self.fault(file_part(*(4 * ["@{b}"] + [""])) + hundred, 6, [0, 0, 0])
        self.fault(["prose"] + file_part("y", *(4 * ["@{b}"])) + hundred, 6, [0, 0, 0])

    def test_number_of_bytes(self):
        # 99 lines of 201 bytes, the byte 10 counted, and one of 101.
        document = file_part(*(9 * ["@{b}"] + ["@{c}"])) + chunk("b", *(11 * [200 * "x"]))
        exact = document + chunk("c", 100 * "x")
        self.assertEqual(made(exact), text_answer(99 * [200 * "x"] + [100 * "x"]))
        self.assertEqual(last(read_lines(*exact), count("m")), [100, 20000])
        self.fault(document + chunk("c", 101 * "x"), 6, [0, 0, 0])
        self.assertEqual(made(document + chunk("c", 99 * "x", "")), text_answer(99 * [200 * "x"] + [99 * "x", ""]))
        self.fault(document + chunk("c", 100 * "x", ""), 6, [0, 0, 0])

    def test_other_faults_come_ahead_of_the_file_s_size(self):
        hundred = chunk("b", *(100 * ["x"]))
        self.fault(file_part(*(5 * ["@{b}"] + ["@{none}"])) + hundred, 1, [0, 5, 0])
        self.fault(file_part(*(8 * ["@{b}"])) + hundred, 4, [1, 92, 0])

    def test_bytes_of_arguments_and_indents_count(self):
        argument = 40 * "x"
        line = 45 * "@<p>"
        document = file_part(*(12 * ["@{b(%s)}" % argument])) + chunk("b(p)", line)
        self.fault(document, 6, [0, 0, 0])
        self.assertEqual(made(document[:12] + document[13:]), text_answer(11 * [1800 * "x"]))
        blank = 100 * " "
        self.fault(file_part(*(2 * [blank + "@{b}"])) + chunk("b", *(99 * ["x"])), 6, [0, 0, 0])

    def test_fault_of_one_file_is_not_that_of_another(self):
        document = file_part("@{b}") + ["@file n", "x", "@end"]
        given = ask(read_lines(*document), file("m"), file("n"), count("n"), count("m"))
        self.assertEqual(given[1:], [[1, 0, 0, 0], text_answer(["x"]), [1, 2], [-4]])


def chain(uses, line="@{%s}", innermost="x"):
    """A document whose file follows so many uses within one another."""
    lines = file_part(line % "c1")
    for number in range(1, uses):
        lines += chunk("c%d" % number, line % ("c%d" % (number + 1)))
    return lines + chunk("c%d" % uses, innermost)


def followed(uses, *more):
    """A document whose file follows 15 times 51 lines, one line, as many as there are uses, and then more."""
    return file_part(*(15 * [50 * "@{a}"] + [uses * "@{a}"] + list(more))) + chunk("a", "x")


if __name__ == "__main__":
    unittest.main()
