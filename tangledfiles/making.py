"""Making a file: its lines are followed, and what they give is kept with its homes."""

from tangledfiles.blocks import live_numbers
from tangledfiles.lines import Parameter
from tangledfiles.lines import Use
from tangledfiles.lines import is_alone_with_use
from tangledfiles.names import LINE_END

MOST_FOLLOWED = 800
MOST_WITHIN = 20
MOST_ROWS = 400
MOST_BYTES = 20000

NO_PLACE = (0, 0, 0)

OF_LITERAL = 0
OF_ARGUMENT = 1
OF_RULE = 2


class MakingFault(Exception):
    def __init__(self, reason, place):
        Exception.__init__(self)
        self.reason = reason
        self.place = place


class Run:
    """Bytes side by side, one at least, that are all the signs of one literal or argument, or of one rule.

    place is that of the literal or of the use. A run of an argument has its number too, and the
    place of the parameter for which it stands; other runs have zeros there.
    """

    def __init__(self, kind, signs, place, way):
        self.kind = kind
        self.signs = signs
        self.place = place
        self.way = way
        self.argument = 0
        self.parameter = NO_PLACE


class LiveLine:
    """A code line together with where it stands."""

    def __init__(self, block, number, pieces):
        self.block = block
        self.number = number
        self.pieces = pieces

    def place_of(self, piece):
        return (self.block, self.number, piece)


class Frame:
    """What is known while lines are followed: the arguments and the place of the innermost use, and the way."""

    def __init__(self, parameters, arguments, place, way):
        self.parameters = parameters
        self.arguments = arguments
        self.place = place
        self.way = way


class Made:
    """What came of making a file: its rows, which are lists of runs; or a reason and a place."""

    def __init__(self, rows, reason, place):
        self.rows = rows
        self.reason = reason
        self.place = place


class Maker:
    def __init__(self, document, variant):
        self.document = document
        self.variant = variant
        self.followed = 0
        self.chunk_lines = {}

    def live_lines(self, numbers):
        """The code that stands in the parts with these numbers."""
        lines = []
        for block in numbers:
            part = self.document.blocks[block]
            for number in live_numbers(part, self.variant):
                lines.append(LiveLine(block, number, part.lines[number].pieces))
        return lines

    def code_of_chunk(self, name):
        # A chunk may be used thousands of times while one file is made.
        if name not in self.chunk_lines:
            self.chunk_lines[name] = self.live_lines(self.document.chunks[name])
        return self.chunk_lines[name]

    def follow_file(self, path):
        return self.follow(self.live_lines(self.document.files[path]), Frame([], [], NO_PLACE, ()))

    def follow(self, lines, frame):
        """The rows that these lines give. Uses nest at most 20 deep, so this may call itself."""
        rows = []
        for line in lines:
            if self.followed == MOST_FOLLOWED:
                raise MakingFault(4, line.place_of(0))
            self.followed += 1
            if is_alone_with_use(line.pieces):
                rows.extend(self.follow_alone(line, frame))
            else:
                rows.append(self.follow_joined(line, frame))
        return rows

    def follow_alone(self, line, frame):
        last = len(line.pieces) - 1
        place = line.place_of(last)
        rows = self.follow_use(line.pieces[last], place, frame)
        if last == 0:
            return rows
        blanks = line.pieces[0].signs
        first = Run(OF_LITERAL, blanks, line.place_of(0), frame.way)
        other = Run(OF_RULE, blanks, place, frame.way)
        return indented(rows[:1], first) + indented(rows[1:], other)

    def follow_joined(self, line, frame):
        row = []
        for number, piece in enumerate(line.pieces):
            place = line.place_of(number)
            if isinstance(piece, Use):
                row.extend(self.follow_use_in_row(piece, place, frame))
            elif isinstance(piece, Parameter):
                row.extend(argument_runs(piece.name, place, frame))
            else:
                row.append(Run(OF_LITERAL, piece.signs, place, frame.way))
        return row

    def follow_use_in_row(self, use, place, frame):
        rows = self.follow_use(use, place, frame)
        if len(rows) > 1:
            raise MakingFault(5, place)
        if len(rows) == 0:
            return []
        return rows[0]

    def follow_use(self, use, place, frame):
        if use.name not in self.document.chunks:
            raise MakingFault(1, place)
        # All parts of one name have the same parameters.
        first_part = self.document.blocks[self.document.chunks[use.name][0]]
        if len(use.arguments) != len(first_part.parameters):
            raise MakingFault(2, place)
        if len(frame.way) == MOST_WITHIN:
            raise MakingFault(3, place)
        inner = Frame(first_part.parameters, use.arguments, place, frame.way + (place,))
        return self.follow(self.code_of_chunk(use.name), inner)


def indented(rows, blanks):
    """The rows, each that is not empty behind the run of blanks."""
    return [[blanks] + row if len(row) > 0 else row for row in rows]


def argument_runs(name, place, frame):
    """The run that a parameter gives; none for an empty argument, so that an empty row has no run."""
    number = frame.parameters.index(name)
    signs = frame.arguments[number]
    if len(signs) == 0:
        return []
    run = Run(OF_ARGUMENT, signs, frame.place, frame.way)
    run.argument = number
    run.parameter = place
    return [run]


def row_size(row):
    return sum([len(run.signs) for run in row])


def byte_count(rows):
    """How many bytes the text of these rows has."""
    return sum([row_size(row) + 1 for row in rows])


def text_of(rows):
    text = []
    for row in rows:
        for run in row:
            text.extend(run.signs)
        text.append(LINE_END)
    return text


def make_file(document, variant, path):
    """What comes of making a file of the document."""
    maker = Maker(document, variant)
    try:
        rows = maker.follow_file(path)
    except MakingFault as fault:
        return Made([], fault.reason, fault.place)
    if len(rows) > MOST_ROWS or byte_count(rows) > MOST_BYTES:
        return Made([], 6, NO_PLACE)
    return Made(rows, 0, NO_PLACE)
