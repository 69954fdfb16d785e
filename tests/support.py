"""What the tests tell calls with. A text may be told as a str or as a list of bytes."""

from tangledfiles.document import answers

EXAMPLE = [
    "@file m", "a", "  @{b(x)};", "  @{c}", "@end",
    "@chunk b(p)", "f(@<p>, @<p>)", "@end",
    "@chunk c", "one", "@if s", " two", "@else", "", "@fi", "@{b()}", "@end",
]


def listed(text):
    return [ord(sign) for sign in text] if isinstance(text, str) else list(text)


def with_length(text):
    return [len(text)] + listed(text)


def ended(lines):
    return "".join([line + "\n" for line in lines])


def read(text):
    return [0] + with_length(text)


def read_lines(*lines):
    return read(ended(lines))


def variant(settings):
    return [1] + with_length(settings)


def file(path):
    return [2] + with_length(path)


def count(path):
    return [3] + with_length(path)


def home(line, column, path):
    return [4, line, column] + with_length(path)


def where(block, line, piece, sign, path):
    return [5, block, line, piece, sign] + with_length(path)


def argument(block, line, piece, n, sign, path):
    return [6, block, line, piece, n, sign] + with_length(path)


def live(block, line):
    return [7, block, line]


def reached(path):
    return [8] + with_length(path)


def idle():
    return [9]


def check(path, text):
    return [10] + with_length(path) + with_length(text)


def files():
    return [11]


def size():
    return [12]


def split_answers(given):
    found = []
    at = 0
    while at < len(given):
        found.append(given[at + 1:at + 1 + given[at]])
        assert len(found[-1]) == given[at]
        at += 1 + given[at]
    return found


def ask(*calls):
    """The answers to these calls on one new object, one list each."""
    return split_answers(answers([number for call in calls for number in call]))


def last(*calls):
    return ask(*calls)[-1]


def text_answer(lines):
    """What file answers for a file of these lines."""
    return [0] + with_length(ended(lines))


def texts_answer(*texts):
    """What reached answers for these names."""
    return [len(texts)] + [number for text in texts for number in with_length(text)]


def pairs_answer(*pairs):
    return [len(pairs)] + [number for pair in pairs for number in pair]


def files_answer(*entries):
    """What files answers for these pairs of a path and 1 or 0."""
    return [len(entries)] + [number for path, makes in entries for number in with_length(path) + [makes]]


def made(lines, path="m", settings=""):
    """What file answers when these lines are the document's."""
    first = ask(read_lines(*lines), variant(settings), file(path))
    assert first[0][0] == 0, first[0]
    return first[-1]
