"""How a search learns a line from a row that leads to nothing."""

from hodman.sayings import ordered, turned


def learn(trail, bad):
    """Adds a line that bars what led to nothing at that row, goes back to where it turns something, and tells it.

    It is the empty line where no guess had to do with it.
    """
    drop_idle_guesses(trail, bad)
    used, facts = causes(trail, bad)
    told = strongest(facts)
    sayings = ordered([turned(fact) for fact, place in told])
    row = trail.add_row(sayings, ("led", *used[::-1]))
    if told:
        trail.back_to(max([trail.level_of(place) for fact, place in told[1:]], default=0))
        trail.use_row(row)
    return sayings


def drop_idle_guesses(trail, bad):
    """Lets go the guesses behind all that the row needs, so that the last one left has to do with it."""
    places = [trail.place_of(fact) for fact in trail.facts_against(bad, None)]
    trail.back_to(trail.level_of(max([place for place in places if place is not None], default=-1)))


def causes(trail, bad):
    """The rows that led to nothing, the last first, and the facts, with places, that these rest on, the last first.

    There is just one of these behind the last guess, and none ahead of the first.
    """
    first = trail.marks[0][0] if trail.marks else len(trail.taken)
    last = trail.marks[-1][0] if trail.marks else len(trail.taken)
    wanted = {}
    want(trail, wanted, bad, None)
    used, facts = [bad], []
    for place in reversed(range(len(trail.taken))):
        here = wanted.pop(place, [])
        saying, row = trail.taken[place]
        if here and (place < first or any([other >= last for other in wanted])):
            used.append(row)
            want(trail, wanted, row, saying)
        elif here:
            facts.append((merged(here, saying), place))
    return used, facts


def want(trail, wanted, row, but):
    """Notes by their places the facts by which the row's line leaves no saying but that one."""
    for fact in trail.facts_against(row, but):
        place = trail.place_of(fact)
        if place is not None:
            wanted.setdefault(place, []).append(fact)


def merged(facts, saying):
    """One fact for these, all of which the saying told; it tells no more than it must."""
    rising = sorted(set(facts))
    if rising[0][0] == "from":
        return rising[-1]
    if rising[0][0] == "ahead" or len(rising) == 1:
        return rising[0]
    return saying


def strongest(facts):
    """The facts, the last first, without bounds of a work that a later one makes needless."""
    seen = set()
    out = []
    for fact, place in facts:
        side = fact[:2]
        if fact[0] not in ("from", "ahead") or side not in seen:
            out.append((fact, place))
        seen.add(side)
    return out
