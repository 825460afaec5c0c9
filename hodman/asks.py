"""Asks: a yard, a bound, kept ones, and how many works may move."""

from hodman.errors import BadBound, BadMost
from hodman.plans import check_kept
from hodman.yards import check_yard


def make_ask(yard, bound, kept, most):
    """The ask as a tuple (yard, bound, pairs, most): a bound always, and a pair or None for each work."""
    check_yard(yard)
    days, works = yard[0], len(yard[3])
    if bound is not None and not 0 <= bound <= days:
        raise BadBound(bound)
    check_kept(yard, kept)
    if most is not None and not 0 <= most <= works:
        raise BadMost(most)
    until = days if bound is None else bound
    pairs = tuple(kept) if len(kept) > 0 else (None,) * works
    return (yard, until, pairs, most)
