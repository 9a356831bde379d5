"""Sets of integers that are made of finitely many intervals.

A set is a tuple of pairs (low, high), None standing for no end. No pair is
empty, the pairs ascend, and between each two there is an integer that is in
neither: so each set has one form.
"""

EVERYTHING = ((None, None),)
NOTHING = ()


def normal(pairs):
    """Return the set of all integers that are in some of the intervals."""
    found = []
    for low, high in sorted([pair for pair in pairs if not _is_void(pair)], key=_begin):
        if found and _reaches(found[-1], low):
            found[-1] = (found[-1][0], _later_end(found[-1][1], high))
        else:
            found.append((low, high))
    return tuple(found)


def _is_void(pair):
    low, high = pair
    return low is not None and high is not None and low > high


def _begin(pair):
    """Return what intervals are sorted by: those without a low end come first."""
    low = pair[0]
    return (0, 0) if low is None else (1, low)


def _reaches(pair, low):
    """Tell whether an interval, which does not begin later than low, goes on to it."""
    high = pair[1]
    # 3..4 and 5..6 are one interval, since no integer lies between them
    return low is None or high is None or low <= high + 1


def _later_end(one, other):
    return None if one is None or other is None else max(one, other)


def union(one, other):
    """Return the set of all that is in one of two sets or in both."""
    return normal([*one, *other])


def meet(one, other):
    """Return the set of all that is in both sets."""
    return others(union(others(one), others(other)))


def others(one):
    """Return the set of all integers that are not in a set."""
    found = []
    begin = None
    for low, high in one:
        if low is not None:
            found.append((begin, low - 1))
        if high is None:
            return tuple(found)
        begin = high + 1
    found.append((begin, None))
    return tuple(found)


def has(one, number):
    """Tell whether a number is in a set."""
    for low, high in one:
        if (low is None or low <= number) and (high is None or number <= high):
            return True
    return False


def least(one):
    """Return the least member, None if there is none."""
    return one[0][0] if one else None


def greatest(one):
    """Return the greatest member, None if there is none."""
    return one[-1][1] if one else None


def how_many(one):
    """Return how many members there are, None if there is no end of them."""
    many = 0
    for low, high in one:
        if low is None or high is None:
            return None
        many += high - low + 1
    return many


def some_member(one):
    """Return a member of a set that is not empty."""
    return member_but(one, ())


def member_but(one, seen):
    """Return a member that is none of some integers, None if there is none."""
    barred = set(seen)
    for low, high in one:
        # among one number more than are barred there is one that is not
        begin, last = _finite_part(low, high, len(barred) + 1)
        for number in range(begin, last + 1):
            if number not in barred:
                return number
    return None


def _finite_part(low, high, many):
    """Return the ends of a part of an interval: of so many numbers if it is endless."""
    if low is None and high is None:
        return 0, many - 1
    if low is None:
        return high - many + 1, high
    if high is None:
        return low, low + many - 1
    return low, high
