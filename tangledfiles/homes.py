"""Homes: of a byte of a file where it comes from, of a sign of the document where it comes to stand."""

from tangledfiles.making import OF_ARGUMENT
from tangledfiles.making import OF_LITERAL


def home_at(rows, line, column):
    """The byte, its home and its way, as numbers; none if no byte is there."""
    if not 0 <= line < len(rows) or column < 0:
        return []
    offset = column
    for run in rows[line]:
        if offset < len(run.signs):
            return [run.signs[offset]] + home_numbers(run, offset) + way_numbers(run.way)
        offset -= len(run.signs)
    return []


def home_numbers(run, offset):
    if run.kind == OF_LITERAL:
        return [run.kind] + list(run.place) + [offset]
    if run.kind == OF_ARGUMENT:
        return [run.kind] + list(run.place) + [run.argument, offset] + list(run.parameter)
    return [run.kind] + list(run.place)


def way_numbers(way):
    numbers = [len(way)]
    for place in way:
        numbers.extend(place)
    return numbers


def pairs_of(rows, kind, place, argument, sign):
    """How many runs come of this literal or argument, and where the sign with this number stands in each."""
    found = []
    for line, row in enumerate(rows):
        column = 0
        for run in row:
            if run.kind == kind and run.place == place and run.argument == argument:
                found.extend([line, column + sign])
            column += len(run.signs)
    return [len(found) // 2] + found


def pairs_of_literal(rows, place, sign):
    return pairs_of(rows, OF_LITERAL, place, 0, sign)


def pairs_of_argument(rows, place, argument, sign):
    return pairs_of(rows, OF_ARGUMENT, place, argument, sign)
