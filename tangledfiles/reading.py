"""Reading a text: its blocks, or the first fault in it."""

from tangledfiles.blocks import Part
from tangledfiles.lines import CodeLine
from tangledfiles.lines import ELSE
from tangledfiles.lines import IF
from tangledfiles.lines import Parameter
from tangledfiles.lines import parse_line
from tangledfiles.names import LINE_END
from tangledfiles.names import begins
from tangledfiles.names import codes
from tangledfiles.names import is_name
from tangledfiles.names import is_path
from tangledfiles.names import is_short_name
from tangledfiles.names import is_sign
from tangledfiles.names import split_at
from tangledfiles.names import split_name_and_list

MOST_OF_LINE = 200
MOST_BLOCKS = 200
MOST_PARTS = 60
MOST_LINES = 400
MOST_CONDITIONS = 6
MOST_PARAMETERS = 4


class TextFault(Exception):
    """The first fault of a text: its line, counted from 1, and its reason."""

    def __init__(self, line, reason):
        Exception.__init__(self)
        self.line = line
        self.reason = reason


class Reader:
    """Takes the lines of a text one after the other.

    part is the part that the next line is within, or None; elses tells of each condition that is
    not ended whether its else was met.
    """

    def __init__(self):
        self.blocks = []
        self.part = None
        self.elses = []
        self.part_count = 0
        self.line_count = 0
        self.parameters = {}

    def take(self, row):
        """Takes an ended line. The reason of its fault, or 0."""
        if len(row) > MOST_OF_LINE or not all([is_sign(byte) for byte in row]):
            return 1
        if self.part is not None:
            return self.take_within(row)
        if begins(row, "@") and not begins(row, "@@"):
            return self.take_header(row)
        return self.take_prose()

    def take_prose(self):
        if len(self.blocks) == MOST_BLOCKS:
            return 6
        self.blocks.append(None)
        return 0

    def take_header(self, row):
        part = parse_header(row)
        if part is None:
            return 2
        if len(self.blocks) == MOST_BLOCKS or self.part_count == MOST_PARTS:
            return 6
        if not part.of_file:
            if self.parameters.get(part.name, part.parameters) != part.parameters:
                return 7
            self.parameters[part.name] = part.parameters
        self.blocks.append(part)
        self.part = part
        self.part_count += 1
        return 0

    def take_within(self, row):
        if row == codes("@end"):
            return self.take_end()
        line = parse_line(row)
        if line is None:
            return 3
        if isinstance(line, CodeLine):
            if not self.knows_parameters(line):
                return 5
        elif not self.is_paired(line):
            return 4
        if self.line_count == MOST_LINES:
            return 6
        if not isinstance(line, CodeLine):
            self.pair(line)
        self.part.lines.append(line)
        self.line_count += 1
        return 0

    def take_end(self):
        if len(self.elses) > 0:
            return 4
        self.part = None
        return 0

    def knows_parameters(self, line):
        names = [piece.name for piece in line.pieces if isinstance(piece, Parameter)]
        return all([name in self.part.parameters for name in names])

    def is_paired(self, condition):
        if condition.kind == IF:
            return len(self.elses) < MOST_CONDITIONS
        if len(self.elses) == 0:
            return False
        return condition.kind != ELSE or not self.elses[-1]

    def pair(self, condition):
        if condition.kind == IF:
            self.elses.append(False)
        elif condition.kind == ELSE:
            self.elses[-1] = True
        else:
            self.elses.pop()


def parse_header(row):
    """The part, yet without lines, that this header begins; None if it is no header."""
    if begins(row, "@file ") and is_path(row[6:]):
        return Part(True, tuple(row[6:]), [])
    if begins(row, "@chunk "):
        return parse_chunk_header(row[7:])
    return None


def parse_chunk_header(row):
    found = split_name_and_list(row)
    if found is None or not is_name(found[0]):
        return None
    listed = found[1]
    if len(listed) > MOST_PARAMETERS or not all([is_short_name(name) for name in listed]):
        return None
    parameters = [tuple(name) for name in listed]
    if len(set(parameters)) < len(parameters):
        return None
    return Part(False, tuple(found[0]), parameters)


def read_blocks(text):
    """The blocks of a text; raises TextFault if it has a fault."""
    rows = split_at(text, LINE_END)
    # What stands behind the last line's end is a line only if it is not empty, and then not ended.
    ended = len(rows) - 1
    reader = Reader()
    for number in range(ended):
        reason = reader.take(rows[number])
        if reason > 0:
            raise TextFault(number + 1, reason)
    if len(rows[ended]) > 0:
        raise TextFault(ended + 1, 1)
    if reader.part is not None:
        raise TextFault(ended + 1, 8)
    return reader.blocks
