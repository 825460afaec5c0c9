"""The days on which a work goes on, its end, and what it holds."""

from hodman.errors import BadDay, BadStuff, BadWay, BadWork
from hodman.yards import check_yard


def working(yard, work, way, begin):
    """The days on which the work goes on, or None where it can't begin then."""
    check_way(yard, work, way)
    check_day(yard, begin)
    return days_from(yard, work, way, begin)


def finish(yard, work, way, *, day=0):
    """The least end of the beginnings from that day on, or None."""
    check_way(yard, work, way)
    check_day(yard, day)
    return end_from(yard, work, way, day)


def holding(yard, work, way, begin, stuff, *, first=0, past=None):
    """How much of a stuff is held from first to ahead of past, or None."""
    check_way(yard, work, way)
    check_day(yard, begin)
    check_stuff(yard, stuff)
    until = yard[0] if past is None else past
    return held_between(yard, work, way, begin, stuff, first, until)


def check_way(yard, work, way):
    """Refuses what is no yard, no work of it, or no way of that work."""
    check_yard(yard)
    works = yard[3]
    if not 0 <= work < len(works):
        raise BadWork(work)
    if not 0 <= way < len(works[work][2]):
        raise BadWay(way)


def check_day(yard, day):
    """Refuses what is none of the yard's days."""
    if not 0 <= day < yard[0]:
        raise BadDay(day)


def check_stuff(yard, stuff):
    """Refuses a number of no stuff."""
    if not 0 <= stuff < len(yard[2]):
        raise BadStuff(stuff)


def days_from(yard, work, way, begin):
    """As working, of good arguments that are not looked at again."""
    days, shut = yard[:2]
    long, rests = yard[3][work][2][way][:2]
    idle = shut if rests else ()
    if begin in idle:
        return None
    going = [day for day in range(begin, days) if day not in idle][:long]
    return going if len(going) == long else None


def end_from(yard, work, way, day):
    """As finish, of good arguments that are not looked at again."""
    for begin in range(day, yard[0]):
        going = days_from(yard, work, way, begin)
        # The first beginning will do: a later one never ends sooner.
        if going is not None:
            return going[-1] + 1
    return None


def held_between(yard, work, way, begin, stuff, first, past):
    """As holding, of good arguments that are not looked at again."""
    going = days_from(yard, work, way, begin)
    if going is None:
        return None
    needs = yard[3][work][2][way][2]
    return needs[stuff] * len([day for day in going if first <= day < past])
