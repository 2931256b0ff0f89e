"""Hoists: which of them a locker's flags can show a row of signs with."""


def kinds_that_mean(locker, signs, place):
    """The kinds, rising by their numbers, that mean the row's sign at this place below flags that mean those above."""
    sign = signs[place]
    # Sames stand behind the signs, and in a locker their numbers K rise.
    return [sign] + [locker.sames[k] for k in locker.sames if k <= place and signs[k - 1] == sign]


def first_left(locker, flown, kinds):
    """The first of these kinds that a copy is left of, None if there's none; flown has the flags flown by kind."""
    for number in kinds:
        if flown.get(number, 0) < locker.kinds[number].copies:
            return number
    return None


def hoist_told(locker, signs):
    """The hoist told for the row of these signs, [] if no hoist alone can show it.

    A kind that means a sign at a place means it at each place of that sign further down too, and never another one.
    So what is left for the places below doesn't depend on which of such kinds is taken: taking the first that is
    left finds a hoist wherever there's one. It flies a same only when all copies of the sign are flown above, which
    makes the sames the fewest and their places the lowest.
    """
    hoist = []
    flown = {}
    for place in range(len(signs)):
        number = first_left(locker, flown, kinds_that_mean(locker, signs, place))
        if number is None:
            return []
        flown[number] = flown.get(number, 0) + 1
        hoist.append(number)
    return hoist


def can_show(locker, signs):
    """Whether a hoist alone can show the row of these signs."""
    return hoist_told(locker, signs) != []
