"""Lines, words and names: what the texts of lockers, books and amendments are made of, as lists of bytes."""

LINE_END = 10
BLANK = 32
LONGEST_NAME = 8
NO_SUCH_LINE = 1


def letters(word):
    """The bytes of a written word."""
    return [ord(letter) for letter in word]


def split_at(mark, values):
    """The parts of the values between the marks: always one more than there are marks, some perhaps empty."""
    parts = []
    part = []
    for value in values:
        if value == mark:
            parts.append(part)
            part = []
        else:
            part.append(value)
    parts.append(part)
    return parts


def is_name_byte(byte):
    """Whether a name may have this byte."""
    return ord("A") <= byte <= ord("Z") or ord("0") <= byte <= ord("9")


def is_name(word):
    """Whether the bytes are a name."""
    return 1 <= len(word) <= LONGEST_NAME and all([is_name_byte(byte) for byte in word])


def is_naming_line(line, first):
    """Whether the line is this first word, a blank and a name."""
    words = split_at(BLANK, line)
    return len(words) == 2 and words[0] == letters(first) and is_name(words[1])


def named(line):
    """The name that a naming line tells."""
    return split_at(BLANK, line)[1]


def naming_line(first, name):
    """The line of this first word, a blank and a name, with its end."""
    return letters(first) + [BLANK] + name + [LINE_END]


def first_fault(text, take):
    """The kind and the line of the text's first fault, [] if there's none.

    take is given each line's number and bytes in turn; it answers the kind of the line's fault, 0 if it has none.
    """
    lines = split_at(LINE_END, text)
    for number, line in enumerate(lines[:-1]):
        kind = take(number, line)
        if kind != 0:
            return [kind, number]
    if len(lines[-1]) > 0:
        return [NO_SUCH_LINE, len(lines) - 1]
    return []


def count_lines(text):
    """How many lines with their end behind them a text has: the number of the line behind the last of these."""
    return text.count(LINE_END)
