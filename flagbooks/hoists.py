"""Hoists: which rows of signs a locker's flags can show."""


def copies_of_same(locker, k):
    """How many copies the locker has of the same with the number k, 0 if it has no such same."""
    if k not in locker.sames:
        return 0
    return locker.kinds[locker.sames[k]].copies


def can_show(locker, signs):
    """Whether a hoist alone can show the row of these signs.

    The same with the number K can stand for one sign only, the row's K-th, but at each place of it further down.
    So a same that can be flown at a place is as good there as later: flying one wherever that can be done takes
    the fewest copies of the signs themselves, and it's enough to look whether there are so many.
    """
    sames_left = {}
    flown = {}
    for place, sign in enumerate(signs):
        if sames_left.get(sign, 0) > 0:
            sames_left[sign] = sames_left[sign] - 1
        else:
            flown[sign] = flown.get(sign, 0) + 1
        sames_left[sign] = sames_left.get(sign, 0) + copies_of_same(locker, place + 1)
    return all([flown[sign] <= locker.kinds[sign].copies for sign in flown])
