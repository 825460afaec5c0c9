"""The judge that goes through a log, row by row, without any search."""

from hodman.asks import make_ask
from hodman.errors import BadLog
from hodman.known import Known
from hodman.rules import line_of
from hodman.sayings import is_line, turned


def first_bad(yard, log, *, bound=None, kept=(), most=None):
    """The number of the first row that isn't right, or None."""
    return bad_row(make_ask(yard, bound, kept, most), log)


def shows(yard, log, *, bound=None, kept=(), most=None):
    """Whether the log shows that the ask has no plan."""
    bad = bad_row(make_ask(yard, bound, kept, most), log)
    return bad is None and len(log) > 0 and log[-1][0] == ()


def lines_of(yard, log, *, bound=None, kept=(), most=None):
    """The lines of a log of which all rows are right."""
    bad = bad_row(make_ask(yard, bound, kept, most), log)
    if bad is not None:
        raise BadLog(bad)
    return [sayings for sayings, reason in log]


def needed(log):
    """The last row and all that it needs, in their order, with the numbers that they have then."""
    wanted = needed_rows(log)
    places = {row: at for at, row in enumerate(wanted)}
    return [renumbered(log[row], places) for row in wanted]


def bad_row(ask, log):
    """As first_bad, of a good ask."""
    lines = []
    for at, (sayings, reason) in enumerate(log):
        if not is_right(ask, lines, sayings, reason):
            return at
        lines.append(sayings)
    return None


def is_right(ask, lines, sayings, reason):
    """Whether a row is right behind right rows of these lines."""
    if is_led(reason):
        return is_line(ask[0], sayings) and leads(ask, lines, sayings, reason[1:])
    borne = line_of(ask, reason)
    return borne is not None and borne == sayings


def is_led(reason):
    """Whether the reason tells rows."""
    return len(reason) > 0 and reason[0] == "led"


def leads(ask, lines, sayings, rows):
    """Whether the line's opposites and then these rows, pressed in order, lead to nothing."""
    if not all([0 <= row < len(lines) for row in rows]):
        return False
    known = Known(ask)
    for saying in sayings:
        against = turned(saying)
        if known.truth(against) is False:
            return True
        known.accept(against)
    for row in rows:
        choices = known.open_of(lines[row])
        if choices == []:
            return True
        if choices is not None and len(choices) == 1:
            known.accept(choices[0])
    return False


def needed_rows(log):
    """The numbers of the last row and of all rows that it needs, rising."""
    wanted = set()
    for at in reversed(range(len(log))):
        if at == len(log) - 1:
            wanted.add(at)
        reason = log[at][1]
        if at in wanted and is_led(reason):
            for row in reason[1:]:
                wanted.add(row)
    return sorted(wanted)


def renumbered(row, places):
    """The row with the new numbers of the rows that it tells."""
    sayings, reason = row
    if not is_led(reason):
        return (sayings, reason)
    return (sayings, ("led", *[places[number] for number in reason[1:]]))
