"""The bytes, words and names that a document is written with. Texts are lists of bytes throughout."""

LINE_END = 10
BLANK = 32
OPENING = 40
CLOSING = 41
COMMA = 44
HYPHEN = 45
AT = 64

MOST_OF_NAME = 30
MOST_OF_PATH = 40
MOST_OF_SHORT_NAME = 12
MOST_OF_ARGUMENT = 40

# The bytes . _ / - that a path may have beside letters and digits.
PATH_MARKS = (46, 95, 47, 45)

# The signs , ( ) { } @ that would end an argument too early.
NO_ARGUMENT_SIGNS = (44, 40, 41, 123, 125, 64)


def codes(word):
    """The bytes of an ASCII word."""
    return [ord(sign) for sign in word]


def begins(row, word):
    return row[:len(word)] == codes(word)


def is_sign(byte):
    return 32 <= byte <= 126


def is_small_letter(byte):
    return 97 <= byte <= 122


def is_capital(byte):
    return 65 <= byte <= 90


def is_digit(byte):
    return 48 <= byte <= 57


def is_word_byte(byte):
    return is_small_letter(byte) or is_digit(byte) or byte == HYPHEN


def is_path_byte(byte):
    return is_small_letter(byte) or is_capital(byte) or is_digit(byte) or byte in PATH_MARKS


def is_word(row):
    return len(row) > 0 and all([is_word_byte(byte) for byte in row])


def is_name(row):
    if len(row) > MOST_OF_NAME:
        return False
    return all([is_word(word) for word in split_at(row, BLANK)])


def is_path(row):
    return 1 <= len(row) <= MOST_OF_PATH and all([is_path_byte(byte) for byte in row])


def is_short_name(row):
    if not 1 <= len(row) <= MOST_OF_SHORT_NAME:
        return False
    return is_small_letter(row[0]) and all([is_small_letter(byte) or is_digit(byte) for byte in row])


def is_argument_sign(byte):
    return is_sign(byte) and byte not in NO_ARGUMENT_SIGNS


def is_argument(row):
    if len(row) > MOST_OF_ARGUMENT:
        return False
    if row[:1] == [BLANK] or row[-1:] == [BLANK]:
        return False
    return all([is_argument_sign(byte) for byte in row])


def split_at(row, mark):
    """What stands between the marks: one row more than there are marks."""
    rows = [[]]
    for byte in row:
        if byte == mark:
            rows.append([])
        else:
            rows[-1].append(byte)
    return rows


def split_name_and_list(row):
    """A pair of the name and the rows in the brackets behind it, none if there are no brackets.

    None if brackets or commas stand wrong. The name and the rows are for the caller to look at.
    """
    if OPENING not in row:
        return (row, [])
    if row[-1] != CLOSING:
        return None
    at = row.index(OPENING)
    rows = split_at(row[at + 1:-1], COMMA)
    listed = rows[:1]
    for follower in rows[1:]:
        if follower[:1] != [BLANK]:
            return None
        listed.append(follower[1:])
    return (row[:at], listed)


def split_settings(text):
    """The short names that a text of settings tells; None if it is no such text."""
    if len(text) == 0:
        return []
    rows = split_at(text, BLANK)
    if not all([is_short_name(row) for row in rows]):
        return None
    return [tuple(row) for row in rows]
