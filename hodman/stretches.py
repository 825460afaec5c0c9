"""The stretches of days on which works would hold too much of a stuff, as far as is known."""


def stretches_of(trail):
    """The stretches (stuff, first, past) that are looked at.

    They are single days, without which a plan that holds too much might go by, and those from a least beginning to
    a greatest end, on which works are most crowded.
    """
    yard = trail.ask[0]
    firsts, pasts = sorted(set(trail.known.least)), greatest_ends(trail)
    wide = [(first, past) for first in firsts for past in pasts if past > first + 1]
    spans = [(day, day + 1) for day in range(yard[0])] + wide
    return [(stuff, first, past) for stuff in range(len(yard[2])) for first, past in spans]


def greatest_ends(trail):
    """The ends of works that begin by a way that is left on the last day that is, rising, each once."""
    known, measures = trail.known, trail.measures
    ends = set()
    for work, high in enumerate(known.until):
        for way in known.left[work]:
            end = measures.finishes[work][way][high - 1]
            if end is not None:
                ends.add(min(end, trail.ask[1]))
    return sorted(ends)


def stretch_reasons(trail, stretch):
    """The reasons by which too much would be held on the stretch unless something turns."""
    stuff, first, past = stretch
    known, measures = trail.known, trail.measures
    rows = [(work, known.least[work], known.until[work], known.left[work]) for work in range(len(known.least))]
    leasts = [measures.least_held(row, stretch) for row in rows]
    # That a work can't begin at all is found by what it can alone.
    if None in leasts:
        return []
    spare = sum(trail.ask[0][2][stuff][first:past]) - sum(leasts)
    if spare < 0:
        return [reason_of(trail, stretch, rows, -1 - spare)]
    reasons = []
    for at, row in enumerate(rows):
        for part in parts_over(measures, stretch, row, leasts[at] + spare):
            reasons.append(reason_of(trail, stretch, [*rows[:at], part, *rows[at + 1:]], 0))
    return reasons


def parts_over(measures, stretch, row, most):
    """The greatest parts of a row, by first days, last days or all ways but one, that always hold more than that."""
    work, low, high, ways = row
    if measures.never_over(row, stretch, most):
        return []
    firsts = [(work, low, day, ways) for day in reversed(range(low + 1, high))]
    lasts = [(work, day, high, ways) for day in range(low + 1, high)]
    out = first_over(measures, stretch, firsts, most) + first_over(measures, stretch, lasts, most)
    if len(ways) > 1:
        for way in ways:
            part = (work, low, high, tuple([other for other in ways if other != way]))
            out += first_over(measures, stretch, [part], most)
    return out


def first_over(measures, stretch, rows, most):
    """A list of the first of the rows that always holds more than that; the empty one for none."""
    for row in rows:
        if measures.always_over(row, stretch, most):
            return [row]
    return []


def reason_of(trail, stretch, rows, excess):
    """The reason by which the rows' works hold too much; excess is how much less would still be too much."""
    told = []
    for row in rows:
        least = trail.measures.least_held(row, stretch)
        if least is None:
            return ("stretch", *stretch, (row,))
        if least <= excess:
            excess -= least
        else:
            told.append(widened(trail, stretch, row, least))
    return ("stretch", *stretch, tuple(told))


def widened(trail, stretch, row, least):
    """The row with more ways and days by which its work holds no less, so that more is barred at once."""
    yard, measures = trail.ask[0], trail.measures
    work, low, high, ways = row
    count = len(yard[3][work][2])
    held = [way for way in range(count) if measures.always_over((work, low, high, (way,)), stretch, least - 1)]
    more = tuple(held)
    while low > 0 and measures.always_over((work, low - 1, low, more), stretch, least - 1):
        low -= 1
    while high < yard[0] and measures.always_over((work, high, high + 1, more), stretch, least - 1):
        high += 1
    return (work, low, high, more)
