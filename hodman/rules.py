"""The reasons that bear lines by a yard's rules."""

from hodman.asks import make_ask
from hodman.days import days_from, end_from, held_between
from hodman.errors import NoLine
from hodman.sayings import ordered
from hodman.yards import END


def bears(yard, reason, *, bound=None, kept=(), most=None):
    """The line that the reason bears."""
    ask = make_ask(yard, bound, kept, most)
    sayings = line_of(ask, reason)
    if sayings is None:
        raise NoLine()
    return sayings


def line_of(ask, reason):
    """The line that a reason bears in a good ask, or None."""
    bearer = BEARERS.get(reason[0]) if len(reason) > 0 else None
    if bearer is None:
        return None
    sayings = bearer(ask, reason[1:])
    return None if sayings is None else ordered(sayings)


def alone_sayings(ask, things):
    """What holds since a work begins on a day only by ways that it could were it alone; or None."""
    if len(things) != 2:
        return None
    yard, bound = ask[:2]
    work, day = things
    if not (0 <= work < len(yard[3]) and 0 <= day < yard[0]):
        return None
    count = len(yard[3][work][2])
    good = [("way", work, way) for way in range(count) if fits_alone(yard, bound, work, way, day)]
    return [("ahead", work, day), ("from", work, day + 1), *good]


def fits_alone(yard, bound, work, way, day):
    """Whether the work, were it alone, can begin so, end by the bound, and find what it holds."""
    going = days_from(yard, work, way, day)
    if going is None or going[-1] >= bound:
        return False
    needs = yard[3][work][2][way][2]
    return all([need <= row[at] for need, row in zip(needs, yard[2]) for at in going])


def tie_sayings(ask, things):
    """What holds since the one of a tie pushes the other; or None."""
    if len(things) != 3:
        return None
    yard = ask[0]
    tie, day, till = things
    if not (0 <= tie < len(yard[4]) and 0 <= day < yard[0] and 0 <= till <= yard[0]):
        return None
    one, other = yard[4][tie][1:3]
    count = len(yard[3][one][2])
    short = [("way", one, way) for way in range(count) if falls_short(yard, tie, way, day, till)]
    return [("ahead", one, day), ("from", other, till), *short]


def falls_short(yard, tie, way, day, till):
    """Whether the one, begun by this way on that day or later, need not push the other so far."""
    kind, one, other, gap = yard[4][tie]
    since = end_from(yard, one, way, day) if kind == END else day
    return since is not None and since + gap < till


def stretch_sayings(ask, things):
    """What holds since works would hold more of a stuff than there is on some days; or None."""
    if len(things) != 4:
        return None
    yard = ask[0]
    stuff, first, past, rows = things
    if not (0 <= stuff < len(yard[2]) and 0 <= first < past <= yard[0] and good_rows(yard, rows)):
        return None
    if not too_much(yard, stuff, first, past, rows):
        return None
    return [saying for row in rows for saying in outside(yard, row)]


def good_rows(yard, rows):
    """Whether each row tells a work, days and ways of it, and the works rise."""
    last = -1
    for row in rows:
        if len(row) != 4 or not last < row[0] < len(yard[3]):
            return False
        last, low, high, ways = row
        if not 0 <= low < high <= yard[0] or not some_of(ways, len(yard[3][last][2])):
            return False
    return True


def some_of(numbers, count):
    """Whether these are rising numbers below the count, one at least."""
    return len(numbers) > 0 and rising(numbers) and 0 <= numbers[0] and numbers[-1] < count


def rising(numbers):
    """Whether each number is greater than the one ahead of it."""
    return all([low < high for low, high in zip(numbers, numbers[1:])])


def too_much(yard, stuff, first, past, rows):
    """Whether the rows' works hold more than there is, or one of them can't begin at all."""
    leasts = [least_held(yard, stuff, first, past, row) for row in rows]
    if None in leasts:
        return True
    return sum(yard[2][stuff][first:past]) < sum(leasts)


def least_held(yard, stuff, first, past, row):
    """The least that the row's work holds on these days, or None where it can't begin at all."""
    work, low, high, ways = row
    held = [held_between(yard, work, way, day, stuff, first, past) for day in range(low, high) for way in ways]
    return min([many for many in held if many is not None], default=None)


def outside(yard, row):
    """The sayings that the row's work begins otherwise than the row tells."""
    work, low, high, ways = row
    others = [way for way in range(len(yard[3][work][2])) if way not in ways]
    return [("ahead", work, low), ("from", work, high), *[("way", work, way) for way in others]]


def kept_sayings(ask, things):
    """What staying and moving mean for a kept work; or None."""
    if len(things) != 2:
        return None
    work, part = things
    if not is_kept(ask, work) or not 0 <= part <= 3:
        return None
    begin, way = ask[2][work]
    if part == 3:
        return [("stays", work, 0), ("ahead", work, begin), ("from", work, begin + 1), ("not", work, way)]
    meant = (("from", work, begin), ("ahead", work, begin + 1), ("way", work, way))
    return [("moves", work, 0), meant[part]]


def few_sayings(ask, things):
    """What holds since of one kept work more than may move one stays; or None."""
    most = ask[3]
    if most is None or len(things) != most + 1 or not rising(things):
        return None
    if not all([is_kept(ask, work) for work in things]):
        return None
    return [("stays", work, 0) for work in things]


def is_kept(ask, work):
    """Whether the number is of a work of which something is kept."""
    return 0 <= work < len(ask[2]) and ask[2][work] is not None


BEARERS = {
    "alone": alone_sayings, "tie": tie_sayings, "stretch": stretch_sayings, "kept": kept_sayings, "few": few_sayings,
}
