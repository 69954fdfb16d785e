import unittest

from tests.support import EXAMPLE, argument, ask, file, home, last, read_lines, variant, where

FAR = (-2147483648, -1, 2147483647)

# Each kind of home, with ways of up to two uses, in a document whose blocks 0 and 4 are prose.
DOCUMENT = [
    "prose",
    "@file m", "a@@b", "  @{c(xy, )}", "[@{d(z)}]", "@if s", "dead", "@fi", "@end",
    "@chunk c(p, q)", "@<q>", "@<p>;@<p>", "", "   @{e}", "@end",
    "@chunk d(p)", "@<p>@<p>", "@end",
    "more prose",
    "@chunk e", "u", "@{d(w)}", "@end",
    "@file broken", "@{none}", "@end",
    "@chunk unused", "idle@{d(k)}", "@end",
]
# The rows of m: "a@b"; ""; "  xy;xy"; ""; "     u"; "     ww"; "[zz]".


def of_document(*calls):
    return ask(read_lines(*DOCUMENT), *calls)[1:]


class Home(unittest.TestCase):
    def home_is(self, line, column, numbers):
        self.assertEqual(of_document(home(line, column, "m")), [numbers])

    def test_rows_are_as_told(self):
        rows = ["a@b", "", "  xy;xy", "", "     u", "     ww", "[zz]"]
        answer = of_document(file("m"))[0]
        self.assertEqual("".join([chr(byte) for byte in answer[2:]]), "\n".join(rows) + "\n")

    def test_example(self):
        given = ask(read_lines(*EXAMPLE), home(1, 4, "m"), home(4, 0, "m"), variant("s"), home(3, 0, "m"),
                    home(3, 2, "m"))
        self.assertEqual(given[1], [120, 1, 0, 1, 1, 0, 0, 1, 0, 1, 1, 0, 1, 1])
        self.assertEqual(given[2], [32, 2, 0, 2, 1, 0])
        self.assertEqual(given[4], [32, 2, 0, 2, 1, 0])
        self.assertEqual(given[5], [32, 0, 2, 2, 0, 0, 1, 0, 2, 1])

    def test_literal(self):
        self.home_is(0, 0, [97, 0, 1, 0, 0, 0, 0])
        self.home_is(0, 1, [64, 0, 1, 0, 0, 1, 0])
        self.home_is(0, 2, [98, 0, 1, 0, 0, 2, 0])
        self.home_is(6, 0, [91, 0, 1, 2, 0, 0, 0])
        self.home_is(6, 3, [93, 0, 1, 2, 2, 0, 0])

    def test_literal_with_a_way(self):
        self.home_is(2, 4, [59, 0, 2, 1, 1, 0, 1, 1, 1, 1])
        self.home_is(4, 5, [117, 0, 5, 0, 0, 0, 2, 1, 1, 1, 2, 3, 1])

    def test_argument(self):
        self.home_is(2, 2, [120, 1, 1, 1, 1, 0, 0, 2, 1, 0, 1, 1, 1, 1])
        self.home_is(2, 3, [121, 1, 1, 1, 1, 0, 1, 2, 1, 0, 1, 1, 1, 1])
        self.home_is(2, 6, [121, 1, 1, 1, 1, 0, 1, 2, 1, 2, 1, 1, 1, 1])
        self.home_is(6, 2, [122, 1, 1, 2, 1, 0, 0, 3, 0, 1, 1, 1, 2, 1])
        self.home_is(5, 5, [119, 1, 5, 1, 0, 0, 0, 3, 0, 0, 3, 1, 1, 1, 2, 3, 1, 5, 1, 0])

    def test_number_of_the_argument(self):
        lines = ["@file m", "@{a(x, y, zw)}", "@end", "@chunk a(p, q, r)", "@<r>@<q>", "@end"]
        given = ask(read_lines(*lines), home(0, 1, "m"), home(0, 2, "m"))
        self.assertEqual(given[1:], [[119, 1, 0, 0, 0, 2, 1, 1, 0, 0, 1, 0, 0, 0],
                                     [121, 1, 0, 0, 0, 1, 0, 1, 0, 1, 1, 0, 0, 0]])

    def test_blanks_where_the_first_row_is_empty(self):
        # The use in block 1, line 1 gives a first row that is empty: the others' blanks come of its rule.
        for column in (0, 1):
            self.home_is(2, column, [32, 2, 1, 1, 1, 0])

    def test_blanks_before_the_first_row_and_before_others(self):
        for line in (4, 5):
            for column in (0, 1):
                self.home_is(line, column, [32, 2, 1, 1, 1, 0])
        for column in (2, 3, 4):
            self.home_is(4, column, [32, 0, 2, 3, 0, column - 2, 1, 1, 1, 1])
            self.home_is(5, column, [32, 2, 2, 3, 1, 1, 1, 1, 1])

    def test_blanks_before_the_first_row_of_the_file(self):
        lines = ["@file m", "  @{a}", "@end", "@chunk a", "x", "@end"]
        given = ask(read_lines(*lines), home(0, 0, "m"), home(0, 1, "m"), home(0, 2, "m"))
        self.assertEqual(given[1:], [[32, 0, 0, 0, 0, 0, 0], [32, 0, 0, 0, 0, 1, 0], [120, 0, 1, 0, 0, 0, 1, 0, 0, 1]])

    def test_no_byte(self):
        places = [(0, 3), (1, 0), (2, 7), (6, 4), (7, 0), (-1, 0), (0, -1), (-7, 0), (6, -4)]
        places += [(far, 0) for far in FAR] + [(0, far) for far in FAR] + [(far, far) for far in FAR]
        for line, column in places:
            self.home_is(line, column, [-2])

    def test_no_file_comes_first(self):
        self.assertEqual(of_document(home(0, 0, "n"), home(-1, 0, "n"), home(0, 0, "")), [[-3], [-3], [-3]])

    def test_not_made_comes_ahead_of_no_byte(self):
        self.assertEqual(of_document(home(0, 0, "broken"), home(-1, -1, "broken")), [[-4], [-4]])

    def test_new_object(self):
        self.assertEqual(ask(home(0, 0, "m")), [[-3]])

    def test_ways_of_twenty_uses(self):
        lines = ["@file m", "@{c1}", "@end"]
        for number in range(1, 20):
            lines += ["@chunk c%d" % number, "@{c%d}" % (number + 1), "@end"]
        lines += ["@chunk c20", "x", "@end"]
        way = [number for block in range(20) for number in (block, 0, 0)]
        self.assertEqual(last(read_lines(*lines), home(0, 0, "m")), [120, 0, 20, 0, 0, 0, 20] + way)


class Where(unittest.TestCase):
    def stands(self, block, line, piece, sign, pairs):
        self.assertEqual(of_document(where(block, line, piece, sign, "m")), [pairs])

    def test_example(self):
        given = ask(read_lines(*EXAMPLE), where(0, 2, 0, 1, "m"), where(1, 0, 0, 0, "m"), where(2, 2, 0, 1, "m"),
                    variant("s"), where(2, 2, 0, 1, "m"))
        self.assertEqual(given[1:], [[1, 2, 1], [2, 1, 2, 4, 2], [0], [1], [1, 3, 3]])

    def test_signs_of_literals(self):
        self.stands(1, 0, 0, 0, [1, 0, 0])
        self.stands(1, 0, 0, 1, [1, 0, 1])
        self.stands(1, 0, 0, 2, [1, 0, 2])
        self.stands(2, 1, 1, 0, [1, 2, 4])
        self.stands(2, 3, 0, 2, [1, 4, 4])

    def test_blanks_that_no_row_has(self):
        # The first row behind these blanks is empty, and the other rows' come of the rule.
        self.stands(1, 1, 0, 0, [0])
        self.stands(1, 1, 0, 1, [0])

    def test_literal_of_a_line_that_is_not_live_or_not_followed(self):
        self.stands(1, 4, 0, 3, [0])
        self.stands(7, 0, 0, 0, [0])

    def test_several_places_by_lines_and_columns(self):
        lines = ["@file m", "@{a}-@{a}", "@{a}", " @{a}", "@end", "@chunk a", "xy", "@end"]
        given = ask(read_lines(*lines), where(1, 0, 0, 0, "m"), where(1, 0, 0, 1, "m"))
        self.assertEqual(given[1:], [[4, 0, 0, 0, 3, 1, 0, 2, 1], [4, 0, 1, 0, 4, 1, 1, 2, 2]])

    def test_no_literal(self):
        for block, line, piece in ((0, 0, 0), (1, 1, 1), (2, 0, 0), (1, 3, 0), (1, 5, 0), (2, 2, 0), (1, 0, 1),
                                   (1, 6, 0), (8, 0, 0), (-1, 0, 0), (1, -1, 0), (1, 0, -1), (-8, 0, 0), (1, -6, 0),
                                   (2, -1, 0), (7, 0, -2)):
            self.stands(block, line, piece, 0, [-2])
        for far in FAR:
            self.stands(far, 0, 0, 0, [-2])
            self.stands(1, far, 0, 0, [-2])
            self.stands(1, 0, far, 0, [-2])
            self.stands(1, 0, 0, far, [-2])

    def test_no_sign(self):
        self.stands(1, 0, 0, 3, [-2])
        self.stands(1, 0, 0, -3, [-2])
        self.stands(1, 1, 0, 2, [-2])

    def test_refusals_in_their_order(self):
        given = of_document(where(0, 0, 0, 0, "n"), where(0, 0, 0, 0, "broken"), where(1, 0, 0, 3, "n"),
                            where(1, 0, 0, 3, "broken"), where(1, 0, 0, 0, "n"), where(1, 0, 0, 0, "broken"),
                            where(1, 0, 0, 0, [200]))
        self.assertEqual(given, [[-2], [-2], [-2], [-2], [-3], [-4], [-3]])

    def test_new_object(self):
        self.assertEqual(ask(where(0, 0, 0, 0, "m")), [[-2]])


class Argument(unittest.TestCase):
    def stands(self, block, line, piece, n, sign, pairs):
        self.assertEqual(of_document(argument(block, line, piece, n, sign, "m")), [pairs])

    def test_example(self):
        given = ask(read_lines(*EXAMPLE), argument(0, 1, 1, 0, 0, "m"), argument(2, 6, 0, 0, 0, "m"))
        self.assertEqual(given[1:], [[2, 1, 4, 1, 7], [-2]])

    def test_signs_of_arguments(self):
        self.stands(1, 1, 1, 0, 0, [2, 2, 2, 2, 5])
        self.stands(1, 1, 1, 0, 1, [2, 2, 3, 2, 6])
        self.stands(1, 2, 1, 0, 0, [2, 6, 1, 6, 2])
        self.stands(5, 1, 0, 0, 0, [2, 5, 5, 5, 6])

    def test_argument_that_is_not_put_in(self):
        self.stands(7, 0, 1, 0, 0, [0])
        lines = ["@file m", "@{a(x, y)}", "@end", "@chunk a(p, q)", "@<q>", "@end"]
        given = ask(read_lines(*lines), argument(0, 0, 0, 0, 0, "m"), argument(0, 0, 0, 1, 0, "m"))
        self.assertEqual(given[1:], [[0], [1, 0, 0]])

    def test_use_that_is_followed_several_times(self):
        lines = ["@file m", "@{a}.@{a}", "@{a}", "@end", "@chunk a", "@{b(v)}", "@end", "@chunk b(p)", "-@<p>", "@end"]
        self.assertEqual(last(read_lines(*lines), argument(1, 0, 0, 0, 0, "m")), [3, 0, 1, 0, 4, 1, 1])

    def test_rule_and_literal_are_not_meant(self):
        lines = ["@file m", " @{a(x)}", "@end", "@chunk a(p)", "1@<p>", "2", "@end"]
        given = ask(read_lines(*lines), argument(0, 0, 1, 0, 0, "m"), where(0, 0, 0, 0, "m"))
        self.assertEqual(given[1:], [[1, 0, 2], [1, 0, 0]])

    def test_no_use(self):
        for block, line, piece in ((0, 0, 0), (1, 0, 0), (1, 1, 0), (2, 1, 0), (1, 3, 0), (1, 1, 2), (1, 6, 0),
                                   (8, 0, 0), (-1, 0, 0), (1, -5, 1), (1, 1, -1), (-7, 1, 1)):
            self.stands(block, line, piece, 0, 0, [-2])
        for far in FAR:
            self.stands(far, 1, 1, 0, 0, [-2])
            self.stands(1, far, 1, 0, 0, [-2])
            self.stands(1, 1, far, 0, 0, [-2])
            self.stands(1, 1, 1, far, 0, [-2])
            self.stands(1, 1, 1, 0, far, [-2])

    def test_no_argument_or_no_sign(self):
        self.stands(1, 1, 1, 2, 0, [-2])
        self.stands(1, 1, 1, -2, 0, [-2])
        self.stands(1, 2, 1, -1, 0, [-2])
        self.stands(1, 2, 1, 0, -1, [-2])
        self.stands(1, 1, 1, 0, 2, [-2])
        self.stands(1, 1, 1, 0, -2, [-2])
        self.stands(1, 1, 1, 1, 0, [-2])
        self.stands(2, 3, 1, 0, 0, [-2])

    def test_refusals_in_their_order(self):
        given = of_document(argument(0, 0, 0, 0, 0, "n"), argument(1, 1, 1, 2, 0, "broken"),
                            argument(1, 1, 1, 0, 2, "n"), argument(1, 1, 1, 0, 0, "n"),
                            argument(1, 1, 1, 0, 0, "broken"), argument(6, 0, 0, 0, 0, "m"))
        self.assertEqual(given, [[-2], [-2], [-2], [-3], [-4], [-2]])

    def test_new_object(self):
        self.assertEqual(ask(argument(0, 0, 0, 0, 0, "m")), [[-2]])


class ThereAndBack(unittest.TestCase):
    def test_each_byte_stands_where_its_home_says(self):
        for document in (DOCUMENT, EXAMPLE):
            text = last(read_lines(*document), file("m"))[2:]
            line = 0
            column = 0
            for byte in text:
                if byte == 10:
                    line += 1
                    column = 0
                    continue
                self.back(document, line, column, byte)
                column += 1

    def back(self, document, line, column, byte):
        found = last(read_lines(*document), home(line, column, "m"))
        self.assertEqual(found[0], byte)
        if found[1] == 2:
            self.assertEqual(byte, 32)
            return
        ask_back = where if found[1] == 0 else argument
        numbers = found[2:6] if found[1] == 0 else found[2:7]
        pairs = last(read_lines(*document), ask_back(*numbers, "m"))
        self.assertEqual(len(pairs), 1 + 2 * pairs[0])
        places = list(zip(pairs[1::2], pairs[2::2]))
        self.assertIn((line, column), places)
        self.assertEqual(places, sorted(set(places)))


if __name__ == "__main__":
    unittest.main()
