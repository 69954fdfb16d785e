"""The calls on one object, told and answered in lists of whole numbers."""

from tangledfiles.blocks import Document
from tangledfiles.blocks import live_numbers
from tangledfiles.homes import home_at
from tangledfiles.homes import pairs_of_argument
from tangledfiles.homes import pairs_of_literal
from tangledfiles.lines import Literal
from tangledfiles.lines import Use
from tangledfiles.making import byte_count
from tangledfiles.making import make_file
from tangledfiles.making import text_of
from tangledfiles.names import LINE_END
from tangledfiles.names import split_at
from tangledfiles.names import split_settings
from tangledfiles.reaching import idle_lines
from tangledfiles.reaching import names_reached
from tangledfiles.reading import TextFault
from tangledfiles.reading import read_blocks

MOST_OF_TEXT = 20000
MOST_SETTINGS = 10

BAD_SETTINGS = -1
NOTHING_THERE = -2
NO_FILE = -3
NOT_MADE = -4
TOO_LONG = -6


class Held:
    """What a line of calls works on: a document and a variant.

    made keeps what came of making files, for as long as both stay as they are.
    """

    def __init__(self):
        self.document = Document([])
        self.variant = {}
        self.made = {}

    def hold_document(self, document):
        self.document = document
        self.made = {}

    def hold_variant(self, settings):
        self.variant = dict([(setting, True) for setting in settings])
        self.made = {}

    def has_file(self, path):
        return tuple(path) in self.document.files

    def make(self, path):
        """What comes of making this file, which must be one of the document's."""
        key = tuple(path)
        if key not in self.made:
            self.made[key] = make_file(self.document, self.variant, key)
        return self.made[key]

    def refusal_of(self, path):
        """The refusal that "made" tells, or 0."""
        if not self.has_file(path):
            return NO_FILE
        if self.make(path).reason > 0:
            return NOT_MADE
        return 0


def answer_read(held, numbers, texts):
    text = texts[0]
    if len(text) > MOST_OF_TEXT:
        return [TOO_LONG]
    try:
        blocks = read_blocks(text)
    except TextFault as fault:
        return [fault.line, fault.reason]
    held.hold_document(Document(blocks))
    return [0, len(blocks)]


def answer_variant(held, numbers, texts):
    settings = split_settings(texts[0])
    if settings is None or len(settings) > MOST_SETTINGS or len(set(settings)) < len(settings):
        return [BAD_SETTINGS]
    held.hold_variant(settings)
    return [len([setting for setting in settings if setting in held.document.settings])]


def answer_file(held, numbers, texts):
    path = texts[0]
    if not held.has_file(path):
        return [NO_FILE]
    made = held.make(path)
    if made.reason > 0:
        return [made.reason] + list(made.place)
    return [0] + with_length(text_of(made.rows))


def answer_count(held, numbers, texts):
    path = texts[0]
    refusal = held.refusal_of(path)
    if refusal < 0:
        return [refusal]
    rows = held.make(path).rows
    return [len(rows), byte_count(rows)]


def answer_home(held, numbers, texts):
    path = texts[0]
    refusal = held.refusal_of(path)
    if refusal < 0:
        return [refusal]
    found = home_at(held.make(path).rows, numbers[0], numbers[1])
    if len(found) == 0:
        return [NOTHING_THERE]
    return found


def answer_where(held, numbers, texts):
    path = texts[0]
    sign = numbers[3]
    piece = held.document.piece_at(numbers[0], numbers[1], numbers[2])
    if not isinstance(piece, Literal) or not 0 <= sign < len(piece.signs):
        return [NOTHING_THERE]
    refusal = held.refusal_of(path)
    if refusal < 0:
        return [refusal]
    return pairs_of_literal(held.make(path).rows, tuple(numbers[:3]), sign)


def answer_argument(held, numbers, texts):
    path = texts[0]
    argument = numbers[3]
    sign = numbers[4]
    piece = held.document.piece_at(numbers[0], numbers[1], numbers[2])
    if not isinstance(piece, Use) or not 0 <= argument < len(piece.arguments):
        return [NOTHING_THERE]
    if not 0 <= sign < len(piece.arguments[argument]):
        return [NOTHING_THERE]
    refusal = held.refusal_of(path)
    if refusal < 0:
        return [refusal]
    return pairs_of_argument(held.make(path).rows, tuple(numbers[:3]), argument, sign)


def answer_live(held, numbers, texts):
    block = numbers[0]
    line = numbers[1]
    if held.document.code_line_at(block, line) is None:
        return [NOTHING_THERE]
    live = live_numbers(held.document.blocks[block], held.variant)
    return [1 if line in live else 0]


def answer_reached(held, numbers, texts):
    path = texts[0]
    if not held.has_file(path):
        return [NO_FILE]
    names = names_reached(held.document, held.variant, held.document.files[tuple(path)])
    answer = [len(names)]
    for name in names:
        answer.extend(with_length(name))
    return answer


def answer_idle(held, numbers, texts):
    places = idle_lines(held.document, held.variant)
    answer = [len(places)]
    for place in places:
        answer.extend(place)
    return answer


def answer_check(held, numbers, texts):
    path = texts[0]
    text = texts[1]
    refusal = held.refusal_of(path)
    if refusal < 0:
        return [refusal]
    tangled = text_of(held.make(path).rows)
    if text == tangled:
        return [1, 0, 0]
    # The place is told alike by either text: before it they are the same.
    rows = split_at(text[:common_size(text, tangled)], LINE_END)
    return [0, len(rows) - 1, len(rows[-1])]


def answer_files(held, numbers, texts):
    answer = [len(held.document.files)]
    for path in held.document.files:
        answer.extend(with_length(path))
        answer.append(1 if held.make(path).reason == 0 else 0)
    return answer


def answer_size(held, numbers, texts):
    document = held.document
    return [len(document.blocks), len(document.files), len(document.names), len(held.variant)]


def with_length(text):
    return [len(text)] + list(text)


def common_size(text, other):
    """How many bytes two texts have alike before they first differ or one of them ends."""
    size = 0
    while size < min(len(text), len(other)) and text[size] == other[size]:
        size += 1
    return size


# Of each call: how many numbers it has, how many texts, and what answers it.
CALLS = {
    0: (0, 1, answer_read),
    1: (0, 1, answer_variant),
    2: (0, 1, answer_file),
    3: (0, 1, answer_count),
    4: (2, 1, answer_home),
    5: (4, 1, answer_where),
    6: (5, 1, answer_argument),
    7: (2, 0, answer_live),
    8: (0, 1, answer_reached),
    9: (0, 0, answer_idle),
    10: (0, 2, answer_check),
    11: (0, 0, answer_files),
    12: (0, 0, answer_size),
}


def answers(calls):
    """The answers to these calls on a new object, each behind how many numbers it has."""
    held = Held()
    given = []
    at = 0
    while at < len(calls):
        call = CALLS[calls[at]]
        at += 1
        numbers = calls[at:at + call[0]]
        at += call[0]
        texts = []
        for turn in range(call[1]):
            behind = at + 1 + calls[at]
            texts.append(calls[at + 1:behind])
            at = behind
        answer = call[2](held, numbers, texts)
        given.append(len(answer))
        given.extend(answer)
    return given
