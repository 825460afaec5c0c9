"""What stands in a book: a dict of its parts that is never changed, only left for another one.

Its parts are days, shut (a rising tuple), stuffs (numbers by days), works (low, high, ways), ties (kind, one, other,
gap), next (the number of the next tie) and kept (begin, way); all but the first two and next are by names or numbers.
"""

from hodman.yards import make_tie, make_way, make_work, make_yard


def empty_stand(days):
    """What stands in a new book."""
    return {"days": days, "shut": (), "stuffs": {}, "works": {}, "ties": {}, "next": 1, "kept": {}}


def with_part(stand, part, thing):
    """What stands once the part is that thing."""
    return {**stand, part: thing}


def with_row(stand, part, key, row):
    """What stands once the part has that row at the key."""
    return with_part(stand, part, {**stand[part], key: row})


def without_row(stand, part, key):
    """What stands once the part has no row at the key."""
    return with_part(stand, part, {other: row for other, row in stand[part].items() if other != key})


def rows_by_key(stand, part):
    """The rows of a part in the order of their keys, each with its key ahead of its things."""
    return [(key, *stand[part][key]) for key in sorted(stand[part])]


def yard_of(stand):
    """The yard: works and stuffs in the order of their names, ties of their numbers."""
    stuffs, names = sorted(stand["stuffs"]), sorted(stand["works"])
    works = [yard_work(stand["works"][name], stuffs) for name in names]
    ties = [yard_tie(tie, names) for tie in rows_by_key(stand, "ties")]
    rows = [stand["stuffs"][name] for name in stuffs]
    return make_yard(works, days=stand["days"], shut=stand["shut"], stuffs=rows, ties=ties)


def yard_work(work, stuffs):
    """The work as a yard has it, with what its ways need of each of the stuffs."""
    low, high, ways = work
    plain = [make_way(long, rests=rests, needs=plain_needs(needs, stuffs)) for long, rests, needs in ways]
    return make_work(plain, low=low, high=high)


def plain_needs(needs, stuffs):
    """How much is needed of each of the stuffs."""
    counts = {name: many for name, many in needs}
    return [counts.get(name, 0) for name in stuffs]


def yard_tie(tie, names):
    """The tie as a yard has it, by the places of its works among the names."""
    number, kind, one, other, gap = tie
    return make_tie(names.index(one), names.index(other), gap=gap, kind=kind)


def kept_of(stand):
    """What is kept of each work, in the order of their names: a pair or None."""
    return tuple([stand["kept"].get(name) for name in sorted(stand["works"])])
