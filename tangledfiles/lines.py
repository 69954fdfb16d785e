"""The lines of a chunk part, and how they are told from their texts."""

from tangledfiles.names import AT
from tangledfiles.names import BLANK
from tangledfiles.names import begins
from tangledfiles.names import codes
from tangledfiles.names import is_argument
from tangledfiles.names import is_name
from tangledfiles.names import is_short_name
from tangledfiles.names import split_name_and_list

IF = 1
ELSE = 2
END_OF_IF = 3

# What follows an at-sign that begins a use or a parameter, and what ends it.
USE_BEGIN = 123
USE_END = 125
PARAMETER_BEGIN = 60
PARAMETER_END = 62


class Literal:
    def __init__(self, signs):
        self.signs = signs


class Use:
    def __init__(self, name, arguments):
        self.name = name
        self.arguments = arguments


class Parameter:
    def __init__(self, name):
        self.name = name


class CodeLine:
    def __init__(self, pieces):
        self.pieces = pieces


class ConditionLine:
    """An if with its setting, an else, or an end of if; the latter two have an empty setting."""

    def __init__(self, kind, setting):
        self.kind = kind
        self.setting = setting


def parse_line(row):
    """The line that has this text, or None."""
    if row == codes("@else"):
        return ConditionLine(ELSE, ())
    if row == codes("@fi"):
        return ConditionLine(END_OF_IF, ())
    if begins(row, "@if ") and is_short_name(row[4:]):
        return ConditionLine(IF, tuple(row[4:]))
    pieces = parse_pieces(row)
    if pieces is None:
        return None
    return CodeLine(pieces)


def parse_pieces(row):
    """The pieces that have this text, or None."""
    pieces = []
    signs = []
    at = 0
    while at < len(row):
        if row[at] != AT:
            signs.append(row[at])
            at += 1
        elif row[at + 1:at + 2] == [AT]:
            signs.append(AT)
            at += 2
        else:
            size = marked_size(row, at)
            piece = parse_marked(row[at:at + size])
            if piece is None:
                return None
            if len(signs) > 0:
                pieces.append(Literal(signs))
                signs = []
            pieces.append(piece)
            at += size
    if len(signs) > 0:
        pieces.append(Literal(signs))
    return pieces


def marked_size(row, at):
    """How many bytes the use or parameter has that begins at this place; 0 if none does.

    Neither a name nor an argument can have the ending sign, so that its first one is the end.
    """
    begin = row[at + 1:at + 2]
    if begin == [USE_BEGIN]:
        end = USE_END
    elif begin == [PARAMETER_BEGIN]:
        end = PARAMETER_END
    else:
        return 0
    rest = row[at:]
    if end not in rest:
        return 0
    return rest.index(end) + 1


def parse_marked(row):
    """The use or parameter that has this text, or None."""
    if len(row) == 0:
        return None
    inside = row[2:-1]
    if row[1] == USE_BEGIN:
        return parse_use(inside)
    if not is_short_name(inside):
        return None
    return Parameter(tuple(inside))


def parse_use(inside):
    found = split_name_and_list(inside)
    if found is None:
        return None
    name = found[0]
    arguments = found[1]
    if not is_name(name) or not all([is_argument(argument) for argument in arguments]):
        return None
    return Use(tuple(name), arguments)


def names_used(pieces):
    return [piece.name for piece in pieces if isinstance(piece, Use)]


def is_alone_with_use(pieces):
    if len(pieces) == 1:
        return isinstance(pieces[0], Use)
    if len(pieces) != 2 or not isinstance(pieces[1], Use):
        return False
    return isinstance(pieces[0], Literal) and all([sign == BLANK for sign in pieces[0].signs])
