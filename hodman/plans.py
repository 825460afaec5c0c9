"""Plans: the rules that they keep, their end, and which kept works move in them."""

from hodman.days import days_from
from hodman.errors import BadKept, BadPlan
from hodman.yards import END, check_yard


def broken(yard, plan):
    """The first rule that the plan breaks, or None."""
    check_plan(yard, plan)
    work = broken_work(yard, plan)
    if work is not None:
        return ("work", work)
    tie = broken_tie(yard, plan)
    if tie is not None:
        return ("tie", tie)
    return broken_stuff(yard, plan)


def end_of(yard, plan):
    """The greatest end of a work, 0 without works."""
    check_begun(yard, plan)
    return max(ends_of(yard, plan), default=0)


def table(yard, plan):
    """For each stuff how much of it is held on each day."""
    check_begun(yard, plan)
    return held_by_days(yard, plan)


def moved(plan, kept):
    """The numbers of the kept works that move in the plan."""
    return [work for work, pair in enumerate(kept) if pair is not None and pair != plan[work]]


def check_plan(yard, plan):
    """Refuses what is no yard, and a plan of more or fewer pairs than works."""
    check_yard(yard)
    works = len(yard[3])
    if len(plan) != works:
        raise BadPlan(min(len(plan), works))


def check_begun(yard, plan):
    """Refuses also a plan in which a work begins as it may not."""
    check_plan(yard, plan)
    work = broken_work(yard, plan)
    if work is not None:
        raise BadPlan(work)


def check_kept(yard, kept):
    """Refuses what can't be kept of the works of a yard that is known to be one."""
    works = yard[3]
    for at, (pair, work) in enumerate(zip(kept, works)):
        if pair is not None and not can_be_kept(pair, yard[0], len(work[2])):
            raise BadKept(at)
    if len(kept) not in (0, len(works)):
        raise BadKept(min(len(kept), len(works)))


def can_be_kept(pair, days, ways):
    """Whether the pair is of one of so many days and one of so many ways."""
    begin, way = pair
    return 0 <= begin < days and 0 <= way < ways


def broken_work(yard, plan):
    """The first work that begins as it may not, or None."""
    for work, (begin, way) in enumerate(plan):
        low, high, ways = yard[3][work]
        if not (low <= begin < high and 0 <= way < len(ways)):
            return work
        if days_from(yard, work, way, begin) is None:
            return work
    return None


def broken_tie(yard, plan):
    """The first tie that a plan breaks whose works begin as they may, or None."""
    ends = ends_of(yard, plan)
    for at, (kind, one, other, gap) in enumerate(yard[4]):
        since = ends[one] if kind == END else plan[one][0]
        if plan[other][0] < since + gap:
            return at
    return None


def broken_stuff(yard, plan):
    """The first stuff and day on which more is held than there is, or None."""
    held = held_by_days(yard, plan)
    for stuff, row in enumerate(yard[2]):
        for day, many in enumerate(row):
            if held[stuff][day] > many:
                return ("stuff", stuff, day)
    return None


def ends_of(yard, plan):
    """The end of each work of a plan whose works begin as they may."""
    return [days_from(yard, work, way, begin)[-1] + 1 for work, (begin, way) in enumerate(plan)]


def held_by_days(yard, plan):
    """As table, of a plan whose works begin as they may."""
    held = [[0] * yard[0] for row in yard[2]]
    for work, (begin, way) in enumerate(plan):
        needs = yard[3][work][2][way][2]
        for day in days_from(yard, work, way, begin):
            for stuff, many in enumerate(needs):
                held[stuff][day] += many
    return held
