"""Yards: how they are made, and what is none."""

from hodman.errors import BadYard

MOST_DAYS = 20
MOST_STUFFS = 3
MOST_WORKS = 6
MOST_WAYS = 3
MOST_TIES = 12
MOST_LONG = 9
MOST_MANY = 9
MOST_GAP = 20
START = 0
END = 1


def make_way(long, *, rests=0, needs=()):
    """The tuple of a way; nothing is looked at."""
    return (long, rests, frozen(needs))


def make_work(ways, *, low=0, high):
    """The tuple of a work; nothing is looked at."""
    return (low, high, frozen(ways))


def make_tie(one, other, *, gap=0, kind=END):
    """The tuple of a tie; nothing is looked at."""
    return (kind, one, other, gap)


def make_yard(works, *, days=MOST_DAYS // 2, shut=(), stuffs=(), ties=()):
    """The yard of these parts, with tuples all through."""
    yard = (days, frozen(shut), frozen(stuffs), frozen(works), frozen(ties))
    check_yard(yard)
    return yard


def is_yard(yard):
    """Whether a tuple of five parts is a yard."""
    return first_wrong(yard) is None


def check_yard(yard):
    """Refuses what is no yard."""
    wrong = first_wrong(yard)
    if wrong is not None:
        part, at = wrong
        raise BadYard(part, at)


def frozen(thing):
    """The thing with tuples in the place of lists, however deep they stand."""
    if isinstance(thing, (list, tuple)):
        return tuple([frozen(part) for part in thing])
    return thing


def first_wrong(yard):
    """The word of the first wrong part and the place in it, or None."""
    days, shut, stuffs, works, ties = yard
    # The other parts are measured by the days, so these must be good first.
    if not 1 <= days <= MOST_DAYS:
        return ("days", 0)
    places = (
        ("shut", wrong_shut(shut, days)),
        ("stuffs", wrong_stuff(stuffs, days)),
        ("works", wrong_work(works, days, len(stuffs))),
        ("ties", wrong_tie(ties, len(works))),
    )
    for part, at in places:
        if at is not None:
            return (part, at)
    return None


def wrong_shut(shut, days):
    """The first place at which the shut days are wrong, or None."""
    last = -1
    for at, day in enumerate(shut):
        if not last < day < days:
            return at
        last = day
    return None


def wrong_stuff(stuffs, days):
    """The first place at which the stuffs are wrong, or None."""
    for at, row in enumerate(stuffs):
        if at >= MOST_STUFFS or not good_row(row, days):
            return at
    return None


def wrong_work(works, days, stuffs):
    """The first place at which the works are wrong, or None; stuffs is a count."""
    for at, work in enumerate(works):
        if at >= MOST_WORKS or not good_work(work, days, stuffs):
            return at
    return None


def wrong_tie(ties, works):
    """The first place at which the ties are wrong, or None; works is a count."""
    for at, tie in enumerate(ties):
        if at >= MOST_TIES or not good_tie(tie, works):
            return at
    return None


def good_row(row, count):
    """Whether these are so many numbers, each of them one that a stuff may have."""
    return len(row) == count and all([0 <= many <= MOST_MANY for many in row])


def good_work(work, days, stuffs):
    """Whether this is a work of a yard with so many days and stuffs."""
    if len(work) != 3:
        return False
    low, high, ways = work
    if not 0 <= low < high <= days or not 1 <= len(ways) <= MOST_WAYS:
        return False
    return all([good_way(way, stuffs) for way in ways])


def good_way(way, stuffs):
    """Whether this is a way of a yard with so many stuffs."""
    if len(way) != 3:
        return False
    long, rests, needs = way
    return 1 <= long <= MOST_LONG and 0 <= rests <= 1 and good_row(needs, stuffs)


def good_tie(tie, works):
    """Whether this is a tie of a yard with so many works."""
    if len(tie) != 4:
        return False
    kind, one, other, gap = tie
    if kind not in (START, END) or one == other:
        return False
    return 0 <= one < works and 0 <= other < works and -MOST_GAP <= gap <= MOST_GAP
