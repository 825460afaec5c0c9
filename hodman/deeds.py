"""Deeds: their forms, what refuses them, and what stands behind each."""

from hodman.answers import answer_of
from hodman.errors import BadDay, BadDeed, BadGap, BadMany, BadName, BadWays, Broken, Full, Held, Missing, NoStuff
from hodman.errors import NoTie, NoWork, Same, Taken, Tied, YardError
from hodman.stand import rows_by_key, with_part, with_row, without_row
from hodman.yards import END, MOST_GAP, MOST_LONG, MOST_MANY, MOST_STUFFS, MOST_TIES, MOST_WAYS, MOST_WORKS, START

# The kinds of the things behind the first text of each deed.
FORMS = {
    "stuff": ("name", "number"), "stock": ("name", "number", "number"), "gone": ("name",), "work": ("name", "ways"),
    "drop": ("name",), "tie": ("number", "name", "name", "number"), "cut": ("number",), "shut": ("number",),
    "unshut": ("number",), "wait": ("name", "number"), "begun": ("name", "number"), "any": ("name",), "keep": (),
    "forget": (),
}
LETTERS = "abcdefghijklmnopqrstuvwxyz"
MOST_LETTERS = 8


def done(stand, deed):
    """What stands behind the deed, and what it tells: a tie's number, else None."""
    if len(deed) == 0 or deed[0] not in FORMS or len(deed) != 1 + len(FORMS[deed[0]]):
        raise BadDeed()
    doer = DOERS[deed[0]]
    things = deed[1:]
    return (doer(stand, *things), stand["next"] if deed[0] == "tie" else None)


def all_done(stand, deeds):
    """What stands behind all the deeds, and a list of what they tell; Broken where one is refused."""
    behind, answers = stand, []
    for at, deed in enumerate(deeds):
        try:
            behind, answer = done(behind, deed)
        except (YardError, Missing) as refused:
            raise Broken(at) from refused
        answers.append(answer)
    return (behind, answers)


def is_name(text):
    """Whether the text is a name."""
    return 1 <= len(text) <= MOST_LETTERS and all([letter in LETTERS for letter in text])


def add_stuff(stand, name, many):
    """So much of a new stuff on each day."""
    check_free(stand, "stuffs", name)
    check_many(many)
    check_space(stand, "stuffs", MOST_STUFFS)
    return with_row(stand, "stuffs", name, (many,) * stand["days"])


def stock_stuff(stand, name, day, many):
    """So much of a stuff on one day."""
    check_stuff(stand, name)
    check_day(stand, day)
    check_many(many)
    row = stand["stuffs"][name]
    return with_row(stand, "stuffs", name, (*row[:day], many, *row[day + 1:]))


def drop_stuff(stand, name):
    """The stuff is no more."""
    check_stuff(stand, name)
    for work, low, high, ways in rows_by_key(stand, "works"):
        if name in needed_names(ways):
            raise Held(work)
    return without_row(stand, "stuffs", name)


def add_work(stand, name, ways):
    """A new work that may begin on any day."""
    check_free(stand, "works", name)
    check_ways(ways)
    for stuff in needed_names(ways):
        check_stuff(stand, stuff)
    check_space(stand, "works", MOST_WORKS)
    return with_row(stand, "works", name, (0, stand["days"], ways))


def drop_work(stand, name):
    """The work is no more, and nothing of it is kept."""
    check_work(stand, name)
    for number, kind, one, other, gap in rows_by_key(stand, "ties"):
        if name in (one, other):
            raise Tied(number)
    return without_row(without_row(stand, "works", name), "kept", name)


def add_tie(stand, kind, one, other, gap):
    """A new tie of the next number."""
    check_work(stand, one)
    check_work(stand, other)
    if one == other:
        raise Same()
    if kind not in (START, END) or not -MOST_GAP <= gap <= MOST_GAP:
        raise BadGap()
    check_space(stand, "ties", MOST_TIES)
    number = stand["next"]
    return with_part(with_row(stand, "ties", number, (kind, one, other, gap)), "next", number + 1)


def cut_tie(stand, number):
    """The tie is no more."""
    if number not in stand["ties"]:
        raise NoTie(number)
    return without_row(stand, "ties", number)


def shut_day(stand, day):
    """The day is shut."""
    check_day(stand, day)
    return with_part(stand, "shut", tuple(sorted(set([*stand["shut"], day]))))


def unshut_day(stand, day):
    """The day isn't shut."""
    check_day(stand, day)
    return with_part(stand, "shut", tuple([other for other in stand["shut"] if other != day]))


def begin_from(stand, name, day):
    """The work begins on that day or later."""
    check_work(stand, name)
    check_day(stand, day)
    return with_bounds(stand, name, day, stand["days"])


def begin_on(stand, name, day):
    """The work begins on just that day."""
    check_work(stand, name)
    check_day(stand, day)
    return with_bounds(stand, name, day, day + 1)


def begin_anyhow(stand, name):
    """The work begins on any day."""
    check_work(stand, name)
    return with_bounds(stand, name, 0, stand["days"])


def with_bounds(stand, name, low, high):
    """What stands once the work begins on day low or later and ahead of day high."""
    return with_row(stand, "works", name, (low, high, stand["works"][name][2]))


def keep_plan(stand):
    """All works of the plan are kept."""
    plan = answer_of(stand)[1]
    return with_part(stand, "kept", {name: (begin, way) for name, begin, way in plan})


def keep_nothing(stand):
    """Nothing is kept."""
    return with_part(stand, "kept", {})


def check_free(stand, part, name):
    """Refuses what is no name, and one that is taken."""
    if not is_name(name):
        raise BadName()
    if name in stand[part]:
        raise Taken(name)


def check_space(stand, part, most):
    """Refuses one more than may be."""
    if len(stand[part]) >= most:
        raise Full(most)


def check_many(many):
    """Refuses what can't be there of a stuff."""
    if not 0 <= many <= MOST_MANY:
        raise BadMany()


def check_stuff(stand, name):
    """Refuses a name of no stuff."""
    if name not in stand["stuffs"]:
        raise NoStuff(name)


def check_work(stand, name):
    """Refuses a name of no work."""
    if name not in stand["works"]:
        raise NoWork(name)


def check_day(stand, day):
    """Refuses what is none of the days."""
    if not 0 <= day < stand["days"]:
        raise BadDay(day)


def check_ways(ways):
    """Refuses what are no ways of a work, whatever stuffs there are."""
    for at, way in enumerate(ways):
        if at >= MOST_WAYS or not is_way(way):
            raise BadWays(at)
    if len(ways) == 0:
        raise BadWays(0)


def is_way(way):
    """Whether this is a way by names."""
    if len(way) != 3:
        return False
    long, rests, needs = way
    if not (1 <= long <= MOST_LONG and 0 <= rests <= 1 and all([is_need(need) for need in needs])):
        return False
    names = [name for name, many in needs]
    return all([name < other for name, other in zip(names, names[1:])])


def is_need(need):
    """Whether this is a name and how much is needed."""
    return len(need) == 2 and is_name(need[0]) and 1 <= need[1] <= MOST_MANY


def needed_names(ways):
    """The names of the stuffs that the ways need, in order."""
    return [name for long, rests, needs in ways for name, many in needs]


DOERS = {
    "stuff": add_stuff, "stock": stock_stuff, "gone": drop_stuff, "work": add_work, "drop": drop_work, "tie": add_tie,
    "cut": cut_tie, "shut": shut_day, "unshut": unshut_day, "wait": begin_from, "begun": begin_on,
    "any": begin_anyhow, "keep": keep_plan, "forget": keep_nothing,
}
