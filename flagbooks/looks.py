"""Looks: sixteen cells of sixteen colours as one number, and how they are in a light and from behind."""

# A look has so many cells, and a light so many colours to tell the classes of.
DIGITS = 16
CELLS_IN_ROW = 4


def digits(number):
    """A number's sixteen digits in base 16, the lowest first: of a look its colours, of a light its classes."""
    told = []
    rest = number
    for place in range(DIGITS):
        told.append(rest % 16)
        rest = rest // 16
    return told


def number_of(told):
    """The number that has these digits in base 16, the lowest first."""
    number = 0
    for digit in reversed(told):
        number = number * 16 + digit
    return number


def in_light(look, light):
    """The look with the class in this light of each cell's colour in the place of the colour."""
    classes = digits(light)
    return number_of([classes[colour] for colour in digits(look)])


def from_behind(look):
    """The look with each of its rows of cells the other way round."""
    colours = digits(look)
    turned = []
    for start in range(0, DIGITS, CELLS_IN_ROW):
        turned.extend(list(reversed(colours[start:start + CELLS_IN_ROW])))
    return number_of(turned)
