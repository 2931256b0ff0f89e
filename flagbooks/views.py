"""Views: how hoists look from a side in a light, and which entries' hoists look alike."""

from flagbooks.hoists import hoist_told
from flagbooks.looks import from_behind, in_light

FRONT = 0
BEHIND = 1
EITHER = 2


def is_side(number):
    """Whether the number is that of a side that hoists can be seen from."""
    return FRONT <= number <= EITHER


def views_of_kinds(locker, light, side):
    """The shape and the look in this light of each of the locker's kinds, from the front or from behind."""
    views = []
    for kind in locker.kinds:
        look = from_behind(kind.look) if side == BEHIND else kind.look
        views.append((kind.shape, in_light(look, light)))
    return views


def views_by_side(locker, light, side):
    """The views of the locker's kinds from each side that a hoist may have been seen from."""
    sides = (FRONT, BEHIND) if side == EITHER else (side,)
    return [views_of_kinds(locker, light, seen_from) for seen_from in sides]


def least_view(hoist, sides):
    """The least of the views of a hoist from these sides, each told by its views of the kinds.

    Turning round what is seen and turning it once more leaves it as it was. So two hoists that look alike from some
    sides have all their views in common, and the least of them is the same for those hoists alone.
    """
    return min([tuple([views[number] for number in hoist]) for views in sides])


def numbers_by_view(seen):
    """The numbers, rising, of the entries that are seen so, by what is seen of them."""
    numbers = {}
    for number, view in enumerate(seen):
        if view not in numbers:
            numbers[view] = []
        numbers[view].append(number)
    return numbers


def pairs_alike(locker, book, light, side):
    """The numbers of each two entries that can be taken for one another, pair behind pair in one list."""
    sides = views_by_side(locker, light, side)
    seen = [least_view(hoist_told(locker, entry.row), sides) for entry in book.entries]
    still_ahead = numbers_by_view(seen)
    pairs = []
    for number, view in enumerate(seen):
        # Of those seen so, the number itself is the first that's left.
        still_ahead[view] = still_ahead[view][1:]
        for other in still_ahead[view]:
            pairs.extend([number, other])
    return pairs
