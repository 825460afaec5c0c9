"""A plan of an ask, or a log that shows that there is none."""

from hodman.asks import make_ask
from hodman.judge import needed
from hodman.learning import learn
from hodman.pushes import settle
from hodman.rules import line_of
from hodman.trail import Trail


def search(yard, *, bound=None, kept=(), most=None):
    """A plan of the ask and None, or None and a log that shows that there is none."""
    ask = make_ask(yard, bound, kept, most)
    trail = Trail(ask)
    for reason in kept_reasons(ask):
        trail.add_row(line_of(ask, reason), reason)
    while True:
        bad = settle(trail)
        if bad is not None:
            if learn(trail, bad) == ():
                return (None, needed(trail.log))
            continue
        guess = next_guess(trail)
        if guess is None:
            return (plan_of(trail.known), None)
        trail.suppose(guess)


def kept_reasons(ask):
    """All reasons of kept works; none where any number may move, since staying is nothing to such an ask."""
    pairs, most = ask[2:]
    if most is None:
        return []
    works = [work for work, pair in enumerate(pairs) if pair is not None]
    reasons = [("kept", work, part) for work in works for part in range(4)]
    return reasons + [("few", *some) for some in picks(works, most + 1)]


def picks(things, count):
    """All lists of so many of the things, in their order."""
    if count == 0:
        return [[]]
    return [[thing, *rest] for at, thing in enumerate(things) for rest in picks(things[at + 1:], count - 1)]


def next_guess(trail):
    """A saying that is open, or None where all that a plan needs is known."""
    known = trail.known
    # Works that stay leave the least to be found.
    if trail.ask[3] is not None and None in known.stay:
        return ("stays", known.stay.index(None), 0)
    rooms = open_rooms(known)
    if not rooms:
        return None
    # Works that begin sooner are told first, so that later ones find what these leave.
    low, high, ways, work = min(rooms)
    if high - low > 1:
        return ("ahead", work, low + 1)
    return ("way", work, known.left[work][0])


def open_rooms(known):
    """What is left to each work of which more than one pair is left: (low, high, count of ways, work)."""
    rooms = [(known.least[work], known.until[work], len(known.left[work]), work) for work in range(len(known.least))]
    return [room for room in rooms if room[1] - room[0] > 1 or room[2] > 1]


def plan_of(known):
    """The plan in which each work begins as is known."""
    return [(low, left[0]) for low, left in zip(known.least, known.left)]
