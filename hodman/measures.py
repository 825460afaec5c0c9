"""What a yard's works come to, counted once and looked up many times while a search goes on."""

from hodman.days import days_from


class Measures:
    """The least ends of a yard's works, and how much they hold on stretches (stuff, first, past) of days."""

    def __init__(self, yard):
        works = yard[3]
        self.needs = [[way[2] for way in work[2]] for work in works]
        self.finishes = [[least_ends(yard, at, way) for way in range(len(work[2]))] for at, work in enumerate(works)]
        self.counts = [[counts_of(yard, at, way) for way in range(len(work[2]))] for at, work in enumerate(works)]
        self.found = {}

    def held(self, work, way, day, stretch):
        """How much the work holds on the stretch where it begins so, or None where it can't."""
        counts = self.counts[work][way][day]
        if counts is None:
            return None
        stuff, first, past = stretch
        return self.needs[work][way][stuff] * (counts[past] - counts[first])

    def extremes(self, row, stretch):
        """The least and the most that a row's work holds on the stretch.

        The least is None where it can't begin at all, the most where it can't on one of the days by one of the ways.
        """
        key = (row, stretch)
        if key not in self.found:
            work, low, high, ways = row
            held = [self.held(work, way, day, stretch) for day in range(low, high) for way in ways]
            real = [many for many in held if many is not None]
            self.found[key] = (min(real, default=None), None if None in held else max(held))
        return self.found[key]

    def least_held(self, row, stretch):
        """The least that a row's work holds on the stretch, or None where it can't begin at all."""
        return self.extremes(row, stretch)[0]

    def always_over(self, row, stretch, most):
        """Whether the row's work holds more than that however it begins, or can't begin at all."""
        least = self.extremes(row, stretch)[0]
        return least is None or least > most

    def never_over(self, row, stretch, most):
        """Whether the row's work can begin on each of the days by each of the ways, and never holds more than that."""
        greatest = self.extremes(row, stretch)[1]
        return greatest is not None and greatest <= most


def least_ends(yard, work, way):
    """For each day the least end of the beginnings from it on, or None."""
    ends = []
    least = None
    for day in reversed(range(yard[0])):
        going = days_from(yard, work, way, day)
        # A later beginning never ends sooner.
        least = least if going is None else going[-1] + 1
        ends.append(least)
    return ends[::-1]


def counts_of(yard, work, way):
    """For each beginning on how many days ahead of each day, and of the end, the work goes on; None where it can't."""
    return [counted(days_from(yard, work, way, day), yard[0]) for day in range(yard[0])]


def counted(going, days):
    """On how many of these days ahead of each day, and of the end, the work goes on."""
    if going is None:
        return None
    return [len([at for at in going if at < day]) for day in range(days + 1)]
