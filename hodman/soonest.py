"""The soonest end of a yard, the fewest kept works that move, and the rooms in which works begin."""

from hodman.asks import make_ask
from hodman.errors import NoPlan
from hodman.plans import end_of, moved
from hodman.pushes import settle
from hodman.search import search
from hodman.trail import Trail


def soonest(yard):
    """The soonest end, a plan of it, and a log that none ends by a day sooner."""
    plan = any_plan(yard, None)
    # A plan without works ends on day 0 whatever is tried.
    while plan:
        end = end_of(yard, plan)
        sooner, log = search(yard, bound=end - 1)
        if sooner is None:
            return (end, plan, log)
        plan = sooner
    return (0, plan, [])


def fewest(yard, kept, *, bound=None):
    """How few kept works move by the bound, such a plan, and a log that one fewer can't."""
    make_ask(yard, bound, kept, None)
    if bound is None:
        end, plan = soonest(yard)[:2]
        return fewest_from(yard, kept, end, plan)
    return fewest_from(yard, kept, bound, any_plan(yard, bound))


def fewest_from(yard, kept, bound, plan):
    """As fewest, of good arguments and from some plan that ends by the bound on."""
    best = plan
    while moved(best, kept):
        most = len(moved(best, kept)) - 1
        better, log = search(yard, bound=bound, kept=kept, most=most)
        if better is None:
            return (most + 1, best, log)
        best = better
    return (0, best, [])


def rooms(yard, *, bound=None):
    """For each work days and ways (low, high, ways) besides which no plan begins it; or None."""
    trail = Trail(make_ask(yard, bound, (), None))
    if settle(trail) is not None:
        return None
    known = trail.known
    return [(low, high, list(ways)) for low, high, ways in zip(known.least, known.until, known.left)]


def any_plan(yard, bound):
    """A plan that ends by the bound; NoPlan."""
    plan, log = search(yard, bound=bound)
    if plan is None:
        raise NoPlan(log)
    return plan
