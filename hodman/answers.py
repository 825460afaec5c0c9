"""What a book tells of its plan."""

from hodman.errors import NoPlan
from hodman.plans import moved
from hodman.soonest import fewest_from, soonest
from hodman.stand import kept_of, yard_of


def answer_of(stand):
    """The tuple (end, plan, moves, sooner, fewer) by names of what stands; NoPlan."""
    yard, kept = yard_of(stand), kept_of(stand)
    end, plan, sooner = soonest(yard)
    many, plan, fewer = fewest_from(yard, kept, end, plan)
    names = sorted(stand["works"])
    rows = [(name, *pair) for name, pair in zip(names, plan)]
    return (end, rows, [names[work] for work in moved(plan, kept)], sooner, fewer)


def answer_or_log(stand):
    """The answer and None, or None and the log of NoPlan."""
    try:
        return (answer_of(stand), None)
    except NoPlan as refused:
        return (None, refused.log)
