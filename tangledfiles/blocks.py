"""Documents: their blocks, and what stands in them."""

from tangledfiles.lines import CodeLine
from tangledfiles.lines import ELSE
from tangledfiles.lines import IF
from tangledfiles.lines import ConditionLine
from tangledfiles.lines import names_used


class Part:
    """A chunk part: of a file, then its name is the path; or of a chunk."""

    def __init__(self, of_file, name, parameters):
        self.of_file = of_file
        self.name = name
        self.parameters = parameters
        self.lines = []


class Document:
    """A row of blocks: a Part each, or None for a line of prose, whose words no call asks for.

    files and chunks tell for each path and each name the numbers of the blocks that are its parts;
    names and settings are dicts of True, in the order in which they first come.
    """

    def __init__(self, blocks):
        self.blocks = blocks
        self.files = {}
        self.chunks = {}
        self.names = {}
        self.settings = {}
        for number, part in enumerate(blocks):
            if part is not None:
                self.note_part(number, part)

    def note_part(self, number, part):
        if part.of_file:
            self.files.setdefault(part.name, []).append(number)
        else:
            self.chunks.setdefault(part.name, []).append(number)
            self.names[part.name] = True
        for line in part.lines:
            if isinstance(line, CodeLine):
                for name in names_used(line.pieces):
                    self.names[name] = True
            elif line.kind == IF:
                self.settings[line.setting] = True

    def code_line_at(self, block, line):
        """The code line at this place, or None."""
        if not 0 <= block < len(self.blocks) or self.blocks[block] is None:
            return None
        lines = self.blocks[block].lines
        if not 0 <= line < len(lines) or not isinstance(lines[line], CodeLine):
            return None
        return lines[line]

    def piece_at(self, block, line, piece):
        """The piece at this place, or None."""
        code_line = self.code_line_at(block, line)
        if code_line is None or not 0 <= piece < len(code_line.pieces):
            return None
        return code_line.pieces[piece]


def live_numbers(part, variant):
    """The numbers of the live code lines of a part."""
    numbers = []
    taken = []
    for number, line in enumerate(part.lines):
        if not isinstance(line, ConditionLine):
            if all(taken):
                numbers.append(number)
        elif line.kind == IF:
            taken.append(line.setting in variant)
        elif line.kind == ELSE:
            taken[-1] = not taken[-1]
        else:
            taken.pop()
    return numbers
