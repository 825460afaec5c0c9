"""What a search presses, as far as it may turn something."""

from hodman.stretches import stretch_reasons, stretches_of
from hodman.yards import END


def settle(trail):
    """Presses until nothing turns any more; the row that leads to nothing, or None."""
    at = 0
    while at < len(PRESSERS):
        count = len(trail.taken)
        presser = PRESSERS[at]
        bad = presser(trail)
        if bad is not None:
            return bad
        # What has turned may turn more by what is sooner gone through.
        at = 0 if len(trail.taken) > count else at + 1
    return None


def press_standing(trail):
    """Presses the rows that stand; the one that leads to nothing, or None."""
    for row in trail.standing:
        bad = trail.use_row(row)
        if bad is not None:
            return bad
    return None


def press_plain(trail):
    """Presses the reasons of works alone and of ties; the row that leads to nothing, or None."""
    return press(trail, alone_reasons(trail) + tie_reasons(trail))


def press_stretches(trail):
    """Presses the reasons of stretches of days; the row that leads to nothing, or None."""
    for stretch in stretches_of(trail):
        bad = press(trail, stretch_reasons(trail, stretch))
        if bad is not None:
            return bad
    return None


def press(trail, reasons):
    """Presses the lines of these reasons in order; the row that leads to nothing, or None."""
    for reason in reasons:
        bad = trail.use(reason)
        if bad is not None:
            return bad
    return None


def alone_reasons(trail):
    """Each work begins on its first and on its last day only as it can alone."""
    known = trail.known
    reasons = []
    for work, (low, high) in enumerate(zip(known.least, known.until)):
        reasons += [("alone", work, low), ("alone", work, high - 1)]
    return reasons


def tie_reasons(trail):
    """The one of each tie pushes the other behind it, and the other the one ahead of it."""
    known, days = trail.known, trail.ask[0][0]
    reasons = []
    for tie, (kind, one, other, gap) in enumerate(trail.ask[0][4]):
        low, high, until = known.least[one], known.until[one], known.until[other]
        soonest = soonest_other(trail, tie, low)
        if soonest > known.least[other]:
            reasons.append(("tie", tie, low, min(soonest, days)))
        reasons.append(("tie", tie, low, until))
        late = [day for day in range(low, high) if soonest_other(trail, tie, day) >= until]
        reasons += [("tie", tie, day, until) for day in late[:1]]
    return reasons


def soonest_other(trail, tie, day):
    """The least day on which the other may begin where the one begins on that day or later."""
    kind, one, other, gap = trail.ask[0][4][tie]
    if kind != END:
        return day + gap
    ends = [trail.measures.finishes[one][way][day] for way in trail.known.left[one]]
    # Where the one can't begin any more, there is no day left for the other.
    return min([end + gap for end in ends if end is not None], default=trail.ask[0][0])


PRESSERS = (press_standing, press_plain, press_stretches)
