"""Sayings of one work each, their opposites, and lines of them."""

from hodman.errors import BadSaying
from hodman.plans import check_plan
from hodman.yards import check_yard

OPPOSITES = {
    "from": "ahead", "ahead": "from", "way": "not", "not": "way", "stays": "moves", "moves": "stays",
}


def opposite(yard, saying):
    """The opposite of a saying."""
    check_yard(yard)
    check_sayings(yard, [saying])
    return turned(saying)


def line(yard, sayings):
    """The line of these sayings, which may stand in any order and more than once."""
    check_yard(yard)
    check_sayings(yard, sayings)
    return ordered(sayings)


def holds(yard, plan, sayings, *, kept=()):
    """Whether one of the sayings holds of the plan."""
    check_plan(yard, plan)
    check_sayings(yard, sayings)
    return any([holds_of(plan, kept, saying) for saying in sayings])


def check_sayings(yard, sayings):
    """Refuses the first that is no saying of a yard that is known to be one."""
    for at, saying in enumerate(sayings):
        if not is_saying(yard, saying):
            raise BadSaying(at)


def is_saying(yard, saying):
    """Whether this is a saying of the yard."""
    if len(saying) != 3 or saying[0] not in OPPOSITES:
        return False
    word, work, number = saying
    if not 0 <= work < len(yard[3]):
        return False
    if word in ("from", "ahead"):
        return 0 <= number <= yard[0]
    if word in ("way", "not"):
        return 0 <= number < len(yard[3][work][2])
    return number == 0


def is_line(yard, sayings):
    """Whether these are a line: a tuple of sayings, rising, each once."""
    if not isinstance(sayings, tuple) or not all([is_saying(yard, saying) for saying in sayings]):
        return False
    return sayings == ordered(sayings)


def turned(saying):
    """The opposite of what is known to be a saying."""
    word, work, number = saying
    return (OPPOSITES[word], work, number)


def ordered(sayings):
    """The line of what are known to be sayings."""
    return tuple(sorted(set(sayings)))


def holds_of(plan, kept, saying):
    """Whether the saying holds of a plan of whatever begins and ways."""
    word, work, number = saying
    begin, way = plan[work]
    if word == "from":
        return begin >= number
    if word == "ahead":
        return begin < number
    if word == "way":
        return way == number
    if word == "not":
        return way != number
    stays = len(kept) > 0 and kept[work] == (begin, way)
    return stays if word == "stays" else not stays
