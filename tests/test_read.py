import unittest

from tests.support import EXAMPLE, ask, ended, file, last, read, read_lines, size, text_answer, variant


class ReadWithoutFault(unittest.TestCase):
    def blocks(self, lines, number):
        self.assertEqual(last(read_lines(*lines)), [0, number])

    def test_empty_text(self):
        self.assertEqual(last(read("")), [0, 0])

    def test_example(self):
        self.blocks(EXAMPLE, 3)

    def test_prose(self):
        self.blocks(["", " ", "words", "@@", "@@end", "@@file m", "a @ b", "}~"], 8)

    def test_prose_between_parts(self):
        self.blocks(["a", "@file m", "x", "@end", "b", "@chunk c", "@end", ""], 5)

    def test_parts_without_lines(self):
        self.blocks(["@file m", "@end", "@chunk c", "@end"], 2)

    def test_headers(self):
        for header in ("@chunk a", "@chunk -", "@chunk 0", "@chunk a b-1 2", "@chunk a(p)", "@chunk a b(p1, q, r, s)",
                       "@file .", "@file -", "@file /", "@file _", "@file Ab/c_1.x-2"):
            with self.subTest(header):
                self.blocks([header, "@end"], 1)

    def test_code_lines(self):
        for line in ("", "   ", "a", "@@", "@@@@", "a@@b", "@{a}", "@{a()}", "@{a(, )}", "@{a(, , )}", "@{a(x)}",
                     "@{a-b 0(x y, z)}", "@{a(\"<>;%\\~)}", "@<p>", "@<p>@<p>", "x@<p>y", "@@@<p>", "@@{a b",
                     "@@<", "{<>}()", "@{a}@{b}", "a @{a} b @{b(c)} d", "@@if s", "@@end", "@{if}", "@{a(if, fi)}"):
            with self.subTest(line):
                self.blocks(["@chunk c(p)", line, "@end"], 1)

    def test_conditions(self):
        self.blocks(["@chunk c", "@if s", "@fi", "@if s", "@else", "@fi", "@if s", "@if s", "@else", "@fi", "@else",
                     "@if t9", "@fi", "@fi", "@end"], 1)

    def test_path_and_name_do_not_meet(self):
        self.blocks(["@file a", "@end", "@chunk a(p)", "@end", "@file a", "@end"], 3)

    def test_several_parts_of_one_name(self):
        self.blocks(["@chunk a(p, q)", "@end", "@chunk b", "@end", "@chunk a(p, q)", "@<q>", "@end"], 3)


class Faults(unittest.TestCase):
    def fault(self, lines, line, reason):
        self.assertEqual(last(read_lines(*lines)), [line, reason], lines)

    def fault_within(self, line, reason=3):
        self.fault(["@chunk c(p)", line, "@end"], 2, reason)

    def test_not_ended(self):
        self.assertEqual(last(read("a")), [1, 1])
        self.assertEqual(last(read("a\nb")), [2, 1])
        self.assertEqual(last(read("@file m\n@end")), [2, 1])
        self.assertEqual(last(read("a\n\n ")), [3, 1])

    def test_no_sign(self):
        for byte in (0, 9, 11, 13, 31, 127, 128, 255):
            with self.subTest(byte):
                self.assertEqual(last(read([97, 10, 97, byte, 10])), [2, 1])
                self.assertEqual(last(read([64, byte, 10])), [1, 1])
        self.assertEqual(last(read([32, 126, 10])), [0, 1])

    def test_no_sign_within_a_part(self):
        self.assertEqual(last(read("@file m\na\tb\n@end\n")), [2, 1])
        self.assertEqual(last(read("@file m\n@end\r\n")), [2, 1])

    def test_no_header(self):
        for header in ("@", "@ ", "@a", "@end", "@else", "@fi", "@if s", "@{a}", "@<p>", "@file", "@file ", "@chunk",
                       "@chunk ", "@filem", "@chunka", "@File m", "@file m ", "@file  m", "@file m n", "@file m(p)",
                       "@file m~", "@file m,", "@file @@", "@chunk  a", "@chunk a ", "@chunk a  b", "@chunk A",
                       "@chunk a_b", "@chunk a.b", "@chunk a()", "@chunk a( )", "@chunk a(", "@chunk a)",
                       "@chunk a(p", "@chunk a(p) ", "@chunk a (p)", "@chunk (p)", "@chunk a(p,q)", "@chunk a(p,  q)",
                       "@chunk a(p , q)", "@chunk a(p, )", "@chunk a(, p)", "@chunk a(p, p)", "@chunk a(p, q, p)",
                       "@chunk a(P)", "@chunk a(1)", "@chunk a(p-q)", "@chunk a(p)(q)", "@chunk a((p))",
                       "@chunk a(p))", "@chunk a(p, q, r, s, t)", "@chunk a{"):
            with self.subTest(header):
                self.fault(["prose", header, "@end"], 2, 2)

    def test_no_line_of_a_part(self):
        for line in ("@", "a@", "@@@", "@a", "@ ", "@end ", "@endx", "@else ", "@fi ", "@if", "@if ", "@if  s",
                     "@if s ", "@if S", "@if 1", "@if s-t", "@if s t", "@file m", "@chunk c", "@{", "@{}", "@{a",
                     "@{A}", "@{ a}", "@{a }", "@{a  b}", "@{a_b}", "@{a(}", "@{a)}", "@{a()", "@{a() }", "@{a (x)}",
                     "@{(x)}", "@{a(x,y)}", "@{a(x,  y)}", "@{a(x , y)}", "@{a(x,)}", "@{a( )}", "@{a( x)}",
                     "@{a(x )}", "@{a((x))}", "@{a(x))}", "@{a({x)}", "@{a(@@)}", "@{a(@<p>)}", "@{a(x)(y)}",
                     "@<", "@<>", "@<p", "@< p>", "@<p >", "@<P>", "@<1>", "@<p-q>", "@<p q>", "x@end", "@{@{a}}"):
            with self.subTest(line):
                self.fault_within(line)

    def test_conditions(self):
        self.fault(["@file m", "@if s", "@end"], 3, 4)
        self.fault(["@file m", "@if s", "@else", "@end"], 4, 4)
        self.fault(["@file m", "@if s", "@if t", "@fi", "@end"], 5, 4)
        self.fault(["@file m", "@else", "@end"], 2, 4)
        self.fault(["@file m", "@fi", "@end"], 2, 4)
        self.fault(["@file m", "@if s", "@fi", "@fi", "@end"], 4, 4)
        self.fault(["@file m", "@if s", "@fi", "@else", "@end"], 4, 4)
        self.fault(["@file m", "@if s", "@else", "@else", "@fi", "@end"], 4, 4)
        self.fault(["@file m", "@if s", "@else", "@if t", "@else", "@fi", "@else", "@fi", "@end"], 7, 4)

    def test_conditions_end_with_their_part(self):
        self.fault(["@file m", "@if s", "@fi", "@end", "@file m", "@fi", "@end"], 6, 4)

    def test_unknown_parameter(self):
        self.fault_within("@<q>", 5)
        self.fault_within("@<p>@<q>", 5)
        self.fault_within("a@{b}@<pp>", 5)
        self.fault(["@chunk c", "@<p>", "@end"], 2, 5)
        self.fault(["@file m", "@<p>", "@end"], 2, 5)
        self.fault(["@chunk c(p)", "@<p>", "@end", "@chunk d(q)", "@<p>", "@end"], 5, 5)

    def test_other_parameters(self):
        for first, second in (("a", "a(p)"), ("a(p)", "a"), ("a(p)", "a(q)"), ("a(p, q)", "a(q, p)"),
                              ("a(p)", "a(p, q)"), ("a(p, q)", "a(p)")):
            with self.subTest(first + second):
                self.fault(["@chunk " + first, "@end", "", "@chunk b(x)", "@end", "@chunk " + second, "@end"], 6, 7)

    def test_missing_end(self):
        self.fault(["@file m"], 2, 8)
        self.fault(["a", "@chunk c", "@if s", ""], 5, 8)
        self.fault(["@file m", "@end", "@file m"], 4, 8)

    def test_first_reason_of_a_line(self):
        self.assertEqual(last(read("@nothing")), [1, 1])
        self.assertEqual(last(read("@file m\n@nothing")), [2, 1])
        self.assertEqual(last(read("@file m\nx")), [2, 1])
        self.assertEqual(last(read("@file m\n@if s\n@end")), [3, 1])
        self.fault(["@" + 200 * "a"], 1, 1)
        self.fault(["@file m", 201 * "@"], 2, 1)
        self.fault_within("@<q>@", 3)
        self.fault(["@chunk a(p)", "@end", "@chunk a(Q)", "@end"], 3, 2)

    def test_first_line_with_a_fault(self):
        self.fault(["@file m", "@<p>", "@", "@end", "@end"], 2, 5)
        self.fault(["@end", "\t"], 1, 2)
        self.fault(["@file m", "@else", "@file m"], 2, 4)
        self.assertEqual(last(read("@nothing\na")), [1, 2])
        self.assertEqual(last(read("@file m\na")), [2, 1])


SMALL = "abcdefghijklmnopqrstuvwxyz"
DIGITS = "0123456789"
SIGNS = "".join([chr(byte) for byte in range(32, 127)])


class EachSign(unittest.TestCase):
    """Of each sign whether it may stand within a name, a path, a short name, an argument."""

    def allowed(self, before, behind, reason=None):
        """The signs that may stand between, within a part or, if there's no reason, in a header."""
        found = ""
        for sign in SIGNS:
            line = before + sign + behind
            lines = ["@chunk a", line, "@fi", "@end"] if line[:3] == "@if" else ["@chunk a", line, "@end"]
            if reason is None:
                lines = [line, "@end"]
            answer = last(read_lines(*lines))
            if answer == [0, 1]:
                found += sign
            else:
                self.assertEqual(answer, [1, 2] if reason is None else [2, reason], line)
        return sorted(found)

    def test_names(self):
        word = SMALL + DIGITS + "-"
        self.assertEqual(self.allowed("@chunk ", ""), sorted(word))
        self.assertEqual(self.allowed("@chunk a", "b"), sorted(word + " "))
        self.assertEqual(self.allowed("@{", "}", 3), sorted(word))
        # With } this is a use without arguments, and a literal behind it.
        self.assertEqual(self.allowed("@{a", "b(x)}", 3), sorted(word + " }"))

    def test_paths(self):
        path = SMALL + SMALL.upper() + DIGITS + "._/-"
        self.assertEqual(self.allowed("@file ", ""), sorted(path))
        self.assertEqual(self.allowed("@file m", "n"), sorted(path))

    def test_short_names(self):
        self.assertEqual(self.allowed("@if ", "", 3), sorted(SMALL))
        self.assertEqual(self.allowed("@if a", "b", 3), sorted(SMALL + DIGITS))
        self.assertEqual(self.allowed("@chunk a(", ")"), sorted(SMALL))
        self.assertEqual(self.allowed("@chunk a(p", ")"), sorted(SMALL + DIGITS))

    def test_arguments(self):
        within = [sign for sign in SIGNS if sign not in ",(){}@"]
        # A } ends the use; what is behind it makes no line.
        self.assertEqual(self.allowed("@{a(x", "y)}", 3), within)
        self.assertEqual(self.allowed("@{a(", ")}", 3), [sign for sign in within if sign != " "])

    def test_what_may_follow_an_at_sign(self):
        self.assertEqual(self.allowed("@", "b}", 3), ["@", "{"])
        for sign in SIGNS:
            answer = last(read_lines("@chunk a(p)", "@" + sign + "p>", "@end"))
            self.assertEqual(answer, [0, 1] if sign in "@<" else [2, 3], sign)


class Limits(unittest.TestCase):
    def answer(self, *lines):
        return last(read_lines(*lines))

    def test_bytes_of_a_line(self):
        self.assertEqual(self.answer(200 * "a"), [0, 1])
        self.assertEqual(self.answer(201 * "a"), [1, 1])
        self.assertEqual(self.answer("@file m", 200 * "a", "@end"), [0, 1])
        self.assertEqual(self.answer("@file m", 201 * "a", "@end"), [2, 1])
        self.assertEqual(self.answer("@file m", 200 * "@", "@end"), [0, 1])

    def test_blocks(self):
        self.assertEqual(self.answer(*(200 * ["a"])), [0, 200])
        self.assertEqual(self.answer(*(201 * ["a"])), [201, 6])
        self.assertEqual(self.answer(*(199 * [""] + ["@file m", "x", "@end"])), [0, 200])
        self.assertEqual(self.answer(*(199 * [""] + ["@file m", "x", "@end", ""])), [203, 6])
        self.assertEqual(self.answer(*(200 * [""] + ["@file m", "@end"])), [201, 6])
        self.assertEqual(self.answer(*(200 * [""] + ["@file"])), [201, 2])

    def test_parts(self):
        parts = 60 * ["@chunk a(p)", "@end"]
        self.assertEqual(self.answer(*parts), [0, 60])
        self.assertEqual(self.answer(*(parts + ["prose"])), [0, 61])
        self.assertEqual(self.answer(*(parts + ["@file m", "@end"])), [121, 6])
        self.assertEqual(self.answer(*(parts + ["@chunk b", "@end"])), [121, 6])
        # 6 comes ahead of 7, and 2 ahead of both.
        self.assertEqual(self.answer(*(parts + ["@chunk a", "@end"])), [121, 6])
        self.assertEqual(self.answer(*(parts + ["@chunk a()", "@end"])), [121, 2])

    def test_lines(self):
        lines = ["@chunk a", "@if s"] + 198 * [""] + ["@fi", "@end", "@file m"] + 199 * ["x"]
        self.assertEqual(self.answer(*(lines + ["y", "@end"])), [0, 2])
        self.assertEqual(self.answer(*(lines + ["y", "@end", "prose", "@file m", "@end"])), [0, 4])
        self.assertEqual(self.answer(*(lines + ["y", "z", "@end"])), [404, 6])
        self.assertEqual(self.answer(*(lines + ["y", "@if s", "@end"])), [404, 6])
        self.assertEqual(self.answer(*(lines + ["@if s", "@fi", "@end"])), [404, 6])
        self.assertEqual(self.answer(*(lines + ["y", "@end", "@chunk b", "", "@end"])), [406, 6])
        # 3, 4 and 5 come ahead of 6.
        self.assertEqual(self.answer(*(lines + ["y", "@", "@end"])), [404, 3])
        self.assertEqual(self.answer(*(lines + ["y", "@fi", "@end"])), [404, 4])
        self.assertEqual(self.answer(*(lines + ["y", "@<p>", "@end"])), [404, 5])

    def test_nested_conditions(self):
        self.assertEqual(self.answer(*(["@file m"] + 6 * ["@if s"] + 6 * ["@fi"] + ["@end"])), [0, 1])
        self.assertEqual(self.answer(*(["@file m"] + 7 * ["@if s"] + 7 * ["@fi"] + ["@end"])), [8, 4])
        again = ["@file m"] + 5 * ["@if s"] + ["@if s", "@else", "@fi", "@else", "@if s"] + 6 * ["@fi"] + ["@end"]
        self.assertEqual(self.answer(*again), [0, 1])

    def test_parameters(self):
        self.assertEqual(self.answer("@chunk a(p, q, r, s)", "@end"), [0, 1])
        self.assertEqual(self.answer("@chunk a(p, q, r, s, t)", "@end"), [1, 2])

    def test_names(self):
        long = 14 * "a" + " " + 15 * "b"
        self.assertEqual(self.answer("@chunk " + long, "@end"), [0, 1])
        self.assertEqual(self.answer("@chunk " + long + "c", "@end"), [1, 2])
        self.assertEqual(self.answer("@file m", "@{" + long + "}", "@end"), [0, 1])
        self.assertEqual(self.answer("@file m", "@{" + long + "c}", "@end"), [2, 3])
        self.assertEqual(self.answer("@file m", "@{" + long + "(x)}", "@end"), [0, 1])

    def test_paths(self):
        self.assertEqual(self.answer("@file " + 40 * "m", "@end"), [0, 1])
        self.assertEqual(self.answer("@file " + 41 * "m", "@end"), [1, 2])

    def test_short_names(self):
        short = "a1234567890b"
        self.assertEqual(self.answer("@chunk a(%s)" % short, "@<%s>" % short, "@end"), [0, 1])
        self.assertEqual(self.answer("@chunk a(%sc)" % short, "@end"), [1, 2])
        self.assertEqual(self.answer("@chunk a", "@<%sc>" % short, "@end"), [2, 3])
        self.assertEqual(self.answer("@chunk a", "@if %s" % short, "@fi", "@end"), [0, 1])
        self.assertEqual(self.answer("@chunk a", "@if %sc" % short, "@fi", "@end"), [2, 3])

    def test_arguments(self):
        long = 20 * "a" + " " + 19 * "b"
        self.assertEqual(self.answer("@file m", "@{a(x, %s)}" % long, "@end"), [0, 1])
        self.assertEqual(self.answer("@file m", "@{a(x, %sc)}" % long, "@end"), [2, 3])
        # Only the length of the line bounds how many there are.
        self.assertEqual(self.answer("@file m", "@{a(" + 97 * ", " + ")}", "@end"), [0, 1])

    def test_bytes_of_a_text(self):
        text = 99 * (200 * "a" + "\n") + 100 * "a" + "\n"
        self.assertEqual(len(text), 20000)
        self.assertEqual(last(read(text)), [0, 100])
        self.assertEqual(last(read("a" + text[:99] + "\n" + text[100:])), [-6])
        self.assertEqual(last(read(24000 * [0])), [-6])
        self.assertEqual(last(read(20000 * [0])), [1, 1])


class WhatIsHeld(unittest.TestCase):
    def test_read_with_a_fault_changes_nothing(self):
        for text in ("@end\n", "@file m\nother\n", "@file n\n@end\nlast", ended(201 * ["a"])):
            given = ask(read_lines(*EXAMPLE), variant("s x"), read(text), size(), file("m"), file("n"))
            self.assertEqual(given[3], [3, 1, 2, 2])
            self.assertEqual(given[4], text_answer(["a", "  f(x, x);", "  one", "   two", "  f(, )"]))
            self.assertEqual(given[5], [-3])

    def test_refused_read_changes_nothing(self):
        given = ask(read_lines(*EXAMPLE), variant("s"), read(20001 * "\n"), size(), file("m"))
        self.assertEqual(given[2:4], [[-6], [3, 1, 2, 1]])
        self.assertEqual(given[4], text_answer(["a", "  f(x, x);", "  one", "   two", "  f(, )"]))

    def test_read_replaces_the_document_and_leaves_the_variant(self):
        other = ["@file n", "@if s", "on", "@else", "off", "@fi", "@end"]
        given = ask(read_lines(*EXAMPLE), variant("s"), file("m"), read_lines(*other), size(), file("m"), file("n"))
        self.assertEqual(given[3:], [[0, 1], [1, 1, 0, 1], [-3], text_answer(["on"])])

    def test_same_path_after_another_read(self):
        given = ask(read_lines("@file m", "a", "@end"), file("m"), read_lines("@file m", "b", "@end"), file("m"))
        self.assertEqual(given[1::2], [text_answer(["a"]), text_answer(["b"])])

    def test_empty_text_empties_the_document(self):
        given = ask(read_lines(*EXAMPLE), read(""), size(), file("m"))
        self.assertEqual(given[1:], [[0, 0], [0, 0, 0, 0], [-3]])


if __name__ == "__main__":
    unittest.main()
