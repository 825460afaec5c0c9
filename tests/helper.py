"""What several tests use: yards of chance with a seed, and a plain second telling of the document."""

import random

FAR = 10 ** 39 + 7
BEYOND = (FAR, -FAR)


def refusal(call, *things, **named):
    """The error that a call raises, or None."""
    try:
        call(*things, **named)
    except (ValueError, LookupError) as error:
        return error
    return None


def told(call, *things, **named):
    """The class's name and fields of the error that a call raises, or None."""
    error = refusal(call, *things, **named)
    if error is None:
        return None
    return (error.__class__.__name__, dict(vars(error)))


def full_yard():
    """A yard that is as great as may be in every part."""
    way = (9, 1, (9, 0, 9))
    rows = tuple([tuple([9] * 20)] * 3)
    works = tuple([(0, 20, (way, (1, 0, (0, 0, 0)), (2, 0, (1, 2, 3))))] * 6)
    ties = tuple([(n % 2, n % 6, (n + 1) % 6, 20 if n % 2 else -20) for n in range(12)])
    return (20, tuple(range(20)), rows, works, ties)


def chance_yard(seed):
    """A yard by chance, the same for the same seed."""
    chance = random.Random(seed)
    days = chance.choice((1, 2, 3, 5, 8, 12, 20))
    shut = tuple([day for day in range(days) if chance.random() < 0.25])
    stuffs = tuple([tuple([chance.randint(0, 9) for _ in range(days)]) for _ in range(chance.randint(0, 3))])
    works = tuple([chance_work(chance, days, len(stuffs)) for _ in range(chance.randint(0, 6))])
    ties = ()
    if len(works) > 1:
        ties = tuple([chance_tie(chance, len(works)) for _ in range(chance.randint(0, 3))])
    return (days, shut, stuffs, works, ties)


def chance_work(chance, days, stuffs):
    low = chance.randrange(days)
    high = chance.randint(low + 1, days)
    ways = []
    for _ in range(chance.randint(1, 3)):
        needs = tuple([chance.randint(0, 5) for _ in range(stuffs)])
        ways.append((chance.randint(1, min(9, days + 1)), chance.randint(0, 1), needs))
    return (low, high, tuple(ways))


def chance_tie(chance, works):
    one, other = chance.sample(range(works), 2)
    return (chance.randint(0, 1), one, other, chance.randint(-12, 4))


def chance_plan(chance, yard):
    """A plan that often begins its works as they may."""
    plan = []
    for low, high, ways in yard[3]:
        begin = chance.randrange(low, high) if chance.random() < 0.9 else chance.randint(-2, 22)
        way = chance.randrange(len(ways)) if chance.random() < 0.95 else chance.randint(-2, 4)
        plan.append((begin, way))
    return plan


def plain_days(yard, work, way, begin):
    """The days of [6], one day after another."""
    long, rests, _ = yard[3][work][2][way]
    if rests == 1 and begin in yard[1]:
        return None
    going = []
    day = begin
    while len(going) < long:
        if day >= yard[0]:
            return None
        if rests == 0 or day not in yard[1]:
            going.append(day)
        day += 1
    return going


def plain_broken(yard, plan):
    """The first broken rule of [7], straight from its words."""
    goings = []
    for work, (begin, way) in enumerate(plan):
        low, high, ways = yard[3][work]
        going = None
        if begin in range(low, high) and way in range(len(ways)):
            going = plain_days(yard, work, way, begin)
        if going is None:
            return ("work", work)
        goings.append(going)
    for at, (kind, one, other, gap) in enumerate(yard[4]):
        since = max(goings[one]) + 1 if kind == 1 else plan[one][0]
        if not plan[other][0] >= since + gap:
            return ("tie", at)
    held = plain_table(yard, plan)
    for stuff, row in enumerate(held):
        for day, many in enumerate(row):
            if many > yard[2][stuff][day]:
                return ("stuff", stuff, day)
    return None


def plain_table(yard, plan):
    held = []
    for stuff in range(len(yard[2])):
        row = []
        for day in range(yard[0]):
            many = 0
            for work, (begin, way) in enumerate(plan):
                if day in plain_days(yard, work, way, begin):
                    many += yard[3][work][2][way][2][stuff]
            row.append(many)
        held.append(row)
    return held


def plain_end(yard, plan):
    end = 0
    for work, (begin, way) in enumerate(plan):
        end = max(end, plain_days(yard, work, way, begin)[-1] + 1)
    return end
