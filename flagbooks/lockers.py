"""Lockers: the kinds of flags there are, read from a locker's text."""

from flagbooks.lines import BLANK, NO_SUCH_LINE
from flagbooks.lines import count_lines, first_fault, is_name, is_naming_line, letters, named, split_at
from flagbooks.looks import DIGITS, number_of

# In the order in which their lines stand in a text.
SIGN = 1
SAME = 2
ANSWER = 3

MOST_SIGNS = 48
MOST_COPIES = 8
HIGHEST_SAME = 4
SHAPES = ("square", "tails", "long")
COLOURS = "0123456789abcdef"

TOLD_BEFORE = 2
TOO_MANY_SIGNS = 3
LOOK_TOLD_BEFORE = 4


class Kind:
    """A kind of flags. Its label is a sign's name (a tuple of bytes), a same's number K, or the answer's 0."""

    def __init__(self, rank, label, copies, shape, look):
        self.rank = rank
        self.label = label
        self.copies = copies
        self.shape = shape
        self.look = look


class Locker:
    """A locker: signs has the kind's number by the sign's name, sames by the same's K.

    fault is [] or, if the text is no locker's, the kind and the line of what's wrong with it.
    """

    def __init__(self):
        self.name = []
        self.kinds = []
        self.signs = {}
        self.sames = {}
        self.fault = []


def small_number(word, most):
    """The number from 1 to most (itself one digit) that a word of one digit tells, 0 if it tells none."""
    if len(word) != 1:
        return 0
    number = word[0] - ord("0")
    return number if 1 <= number <= most else 0


def shape_told(word):
    """The number of the shape that a word tells, -1 if it tells none."""
    for number, shape in enumerate(SHAPES):
        if word == letters(shape):
            return number
    return -1


def look_told(word):
    """The look, as a number, that a word tells; -1 if it tells none."""
    colours = letters(COLOURS)
    if len(word) != DIGITS or not all([byte in colours for byte in word]):
        return -1
    return number_of([colours.index(byte) for byte in word])


def kind_with(rank, label, words):
    """The kind whose copies, shape and look these three words tell, None if they don't."""
    copies = small_number(words[0], MOST_COPIES)
    shape = shape_told(words[1])
    look = look_told(words[2])
    if copies == 0 or shape < 0 or look < 0:
        return None
    return Kind(rank, label, copies, shape, look)


def kind_told(line):
    """The kind that a line tells, None if it's no kind's line."""
    words = split_at(BLANK, line)
    if len(words) == 5 and words[0] == letters("sign") and is_name(words[1]):
        return kind_with(SIGN, tuple(words[1]), words[2:])
    if len(words) == 5 and words[0] == letters("same") and small_number(words[1], HIGHEST_SAME) > 0:
        return kind_with(SAME, small_number(words[1], HIGHEST_SAME), words[2:])
    if len(words) == 4 and words[0] == letters("answer"):
        return kind_with(ANSWER, 0, words[1:])
    return None


def can_stand(locker, kind):
    """Whether the kind can stand behind those that the locker has so far."""
    if len(locker.kinds) == 0:
        return True
    before = locker.kinds[-1]
    return before.rank != ANSWER and before.rank <= kind.rank


def is_label_taken(locker, kind):
    """Whether a sign's name stands before, or a same's K isn't above that of a same before."""
    if kind.rank == SIGN:
        return kind.label in locker.signs
    return kind.rank == SAME and any([kind.label <= before for before in locker.sames])


def is_look_taken(locker, kind):
    """Whether a kind before has this one's shape and look."""
    return any([before.shape == kind.shape and before.look == kind.look for before in locker.kinds])


def kind_fault(locker, kind):
    """The kind of fault of a line that tells this kind of flags (None: no such line), 0 if it has none."""
    if kind is None or not can_stand(locker, kind):
        return NO_SUCH_LINE
    if is_label_taken(locker, kind):
        return TOLD_BEFORE
    if kind.rank == SIGN and len(locker.signs) == MOST_SIGNS:
        return TOO_MANY_SIGNS
    if is_look_taken(locker, kind):
        return LOOK_TOLD_BEFORE
    return 0


def add_kind(locker, kind):
    """Put the kind behind those that the locker has."""
    number = len(locker.kinds)
    locker.kinds.append(kind)
    if kind.rank == SIGN:
        locker.signs[kind.label] = number
    if kind.rank == SAME:
        locker.sames[kind.label] = number


def take_line(locker, number, line):
    """Add to the locker what its next line tells; answers the kind of the line's fault, 0 if it has none."""
    if number == 0:
        if not is_naming_line(line, "locker"):
            return NO_SUCH_LINE
        locker.name = named(line)
        return 0
    kind = kind_told(line)
    fault = kind_fault(locker, kind)
    if fault == 0:
        add_kind(locker, kind)
    return fault


def read_locker(text):
    """The locker that a text tells, with its fault if it's no locker's text."""
    locker = Locker()
    locker.fault = first_fault(text, lambda number, line: take_line(locker, number, line))
    if locker.fault == [] and len(locker.signs) == 0:
        locker.fault = [NO_SUCH_LINE, count_lines(text)]
    return locker


def is_sign(locker, number):
    """Whether the number is that of a kind that's a sign: signs stand ahead of all other kinds."""
    return number < len(locker.signs)
