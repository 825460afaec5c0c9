"""What several tests use: yards of chance with a seed, and a plain second telling of the document."""

import itertools
import random

FAR = 10 ** 39 + 7
BEYOND = (FAR, -FAR)


def refusal(call, *things, **named):
    """The error that a call raises, or None."""
    try:
        call(*things, **named)
    except (ValueError, LookupError) as error:
        return error
    return None


def told(call, *things, **named):
    """The class's name and fields of the error that a call raises, or None."""
    error = refusal(call, *things, **named)
    if error is None:
        return None
    return (error.__class__.__name__, dict(vars(error)))


def full_yard():
    """A yard that is as great as may be in every part."""
    way = (9, 1, (9, 0, 9))
    rows = tuple([tuple([9] * 20)] * 3)
    works = tuple([(0, 20, (way, (1, 0, (0, 0, 0)), (2, 0, (1, 2, 3))))] * 6)
    ties = tuple([(n % 2, n % 6, (n + 1) % 6, 20 if n % 2 else -20) for n in range(12)])
    return (20, tuple(range(20)), rows, works, ties)


def chance_yard(seed):
    """A yard by chance, the same for the same seed."""
    chance = random.Random(seed)
    days = chance.choice((1, 2, 3, 5, 8, 12, 20))
    shut = tuple([day for day in range(days) if chance.random() < 0.25])
    stuffs = tuple([tuple([chance.randint(0, 9) for _ in range(days)]) for _ in range(chance.randint(0, 3))])
    works = tuple([chance_work(chance, days, len(stuffs)) for _ in range(chance.randint(0, 6))])
    ties = ()
    if len(works) > 1:
        ties = tuple([chance_tie(chance, len(works)) for _ in range(chance.randint(0, 3))])
    return (days, shut, stuffs, works, ties)


def chance_work(chance, days, stuffs):
    low = chance.randrange(days)
    high = chance.randint(low + 1, days)
    ways = []
    for _ in range(chance.randint(1, 3)):
        needs = tuple([chance.randint(0, 5) for _ in range(stuffs)])
        ways.append((chance.randint(1, min(9, days + 1)), chance.randint(0, 1), needs))
    return (low, high, tuple(ways))


def chance_tie(chance, works):
    one, other = chance.sample(range(works), 2)
    return (chance.randint(0, 1), one, other, chance.randint(-12, 4))


def chance_plan(chance, yard):
    """A plan that often begins its works as they may."""
    plan = []
    for low, high, ways in yard[3]:
        begin = chance.randrange(low, high) if chance.random() < 0.9 else chance.randint(-2, 22)
        way = chance.randrange(len(ways)) if chance.random() < 0.95 else chance.randint(-2, 4)
        plan.append((begin, way))
    return plan


def plain_days(yard, work, way, begin):
    """The days of [6], one day after another."""
    long, rests, _ = yard[3][work][2][way]
    if rests == 1 and begin in yard[1]:
        return None
    going = []
    day = begin
    while len(going) < long:
        if day >= yard[0]:
            return None
        if rests == 0 or day not in yard[1]:
            going.append(day)
        day += 1
    return going


def plain_broken(yard, plan):
    """The first broken rule of [7], straight from its words."""
    goings = []
    for work, (begin, way) in enumerate(plan):
        low, high, ways = yard[3][work]
        going = None
        if begin in range(low, high) and way in range(len(ways)):
            going = plain_days(yard, work, way, begin)
        if going is None:
            return ("work", work)
        goings.append(going)
    for at, (kind, one, other, gap) in enumerate(yard[4]):
        since = max(goings[one]) + 1 if kind == 1 else plan[one][0]
        if not plan[other][0] >= since + gap:
            return ("tie", at)
    held = plain_table(yard, plan)
    for stuff, row in enumerate(held):
        for day, many in enumerate(row):
            if many > yard[2][stuff][day]:
                return ("stuff", stuff, day)
    return None


def plain_table(yard, plan):
    held = []
    for stuff in range(len(yard[2])):
        row = []
        for day in range(yard[0]):
            many = 0
            for work, (begin, way) in enumerate(plan):
                if day in plain_days(yard, work, way, begin):
                    many += yard[3][work][2][way][2][stuff]
            row.append(many)
        held.append(row)
    return held


def plain_end(yard, plan):
    end = 0
    for work, (begin, way) in enumerate(plan):
        end = max(end, plain_days(yard, work, way, begin)[-1] + 1)
    return end


def small_yard(seed):
    """A yard by chance of which all plans can be gone through; plans are often there."""
    chance = random.Random(seed)
    days = chance.randint(1, 5)
    shut = tuple([day for day in range(days) if chance.random() < 0.2])
    stuffs = tuple([tuple([chance.randint(1, 6) for _ in range(days)]) for _ in range(chance.randint(0, 2))])
    works = []
    for _ in range(chance.choice((0, 1, 2, 2, 3, 3, 3))):
        low = chance.randint(0, days // 3)
        high = chance.randint(max(low + 1, days - 2), days)
        ways = []
        for _ in range(chance.randint(1, 2)):
            needs = tuple([chance.randint(0, 4) for _ in stuffs])
            ways.append((chance.choice((1, 1, 2, 2, 3)), chance.randint(0, 1), needs))
        works.append((low, high, tuple(ways)))
    ties = ()
    if len(works) > 1:
        ties = tuple([small_tie(chance, len(works)) for _ in range(chance.randint(0, 3))])
    return (days, shut, stuffs, tuple(works), ties)


def small_tie(chance, works):
    one, other = chance.sample(range(works), 2)
    return (chance.randint(0, 1), one, other, chance.randint(-3, 1))


def chance_ask(chance, yard):
    """What is handed in by name of an ask: nothing kept, all, some; any number may move, none, some."""
    days, works = yard[0], yard[3]
    bound = chance.choice((None, None, days, chance.randint(0, days), chance.randint(days // 2, days)))
    kept = ()
    if chance.random() < 0.7:
        kept = tuple([None if chance.random() < 0.3 else chance_pair(chance, days, work) for work in works])
    most = chance.choice((None, 0, len(works), chance.randint(0, len(works))))
    return {"bound": bound, "kept": kept, "most": most}


def chance_pair(chance, days, work):
    low, high, ways = work
    begin = chance.randrange(low, high) if chance.random() < 0.8 else chance.randrange(days)
    return (begin, chance.randrange(len(ways)))


def plain_plans(yard, bound=None, kept=(), most=None):
    """All plans of the ask of [11]."""
    days, works = yard[0], yard[3]
    rooms = []
    for work, (low, high, ways) in enumerate(works):
        pairs = [(begin, way) for begin in range(low, high) for way in range(len(ways))]
        rooms.append([pair for pair in pairs if plain_days(yard, work, pair[1], pair[0])])
    out = []
    for plan in itertools.product(*rooms):
        moving = [pair for pair, keep in zip(plan, kept) if keep is not None and keep != pair]
        if most is not None and len(moving) > most:
            continue
        if plain_broken(yard, plan) is None and plain_end(yard, plan) <= (days if bound is None else bound):
            out.append(list(plan))
    return out


def plain_holds(plan, kept, saying):
    """Whether the saying of [9] holds."""
    word, work, number = saying
    stays = kept != () and kept[work] is not None and kept[work] == plan[work]
    return {
        "from": plan[work][0] >= number, "ahead": plan[work][0] < number, "way": plan[work][1] == number,
        "not": plan[work][1] != number, "stays": stays, "moves": not stays,
    }[word]


def plain_is_line(yard, line):
    """Whether this is a line of [10]."""
    every = set()
    for work, (_, _, ways) in enumerate(yard[3]):
        every |= {(word, work, day) for word in ("from", "ahead") for day in range(yard[0] + 1)}
        every |= {(word, work, way) for word in ("way", "not") for way in range(len(ways))}
        every |= {("stays", work, 0), ("moves", work, 0)}
    return isinstance(line, tuple) and set(line) <= every and list(line) == sorted(set(line))


def plain_line(yard, reason, bound=None, kept=(), most=None):
    """The line that a reason bears by [12], or None."""
    days, _, stuffs, works, ties = yard
    keeping = [work for work, pair in enumerate(kept) if pair is not None]
    out = None
    match reason:
        case ("alone", work, day) if work in range(len(works)) and day in range(days):
            out = {("ahead", work, day), ("from", work, day + 1)} | plain_alone(yard, work, day, bound)
        case ("tie", tie, day, till) if tie in range(len(ties)) and day in range(days) and till in range(days + 1):
            out = {("ahead", ties[tie][1], day), ("from", ties[tie][2], till)} | plain_tie(yard, tie, day, till)
        case ("stretch", stuff, first, past, rows) if stuff in range(len(stuffs)) and 0 <= first < past <= days:
            out = plain_stretch(yard, stuff, range(first, past), rows)
        case ("kept", work, part) if work in keeping and part in range(4):
            begin, way = kept[work]
            out = [
                {("moves", work, 0), ("from", work, begin)}, {("moves", work, 0), ("ahead", work, begin + 1)},
                {("moves", work, 0), ("way", work, way)},
                {("stays", work, 0), ("ahead", work, begin), ("from", work, begin + 1), ("not", work, way)},
            ][part]
        case ("few", *some) if most is not None and len(some) == most + 1:
            if set(some) <= set(keeping) and some == sorted(set(some)):
                out = {("stays", work, 0) for work in some}
    return None if out is None else tuple(sorted(out))


def plain_alone(yard, work, day, bound):
    out = set()
    for way, (_, _, needs) in enumerate(yard[3][work][2]):
        going = plain_days(yard, work, way, day)
        if going is None or max(going) + 1 > (yard[0] if bound is None else bound):
            continue
        if not [1 for at in going for stuff, row in enumerate(yard[2]) if row[at] < needs[stuff]]:
            out.add(("way", work, way))
    return out


def plain_tie(yard, tie, day, till):
    kind, one, _, gap = yard[4][tie]
    out = set()
    for way in range(len(yard[3][one][2])):
        goings = [plain_days(yard, one, way, begin) for begin in range(day, yard[0])]
        ends = [max(going) + 1 for going in goings if going] if kind == 1 else [day]
        if ends and min(ends) + gap < till:
            out.add(("way", one, way))
    return out


def plain_stretch(yard, stuff, span, rows):
    works = [row[0] for row in rows if len(row) == 4]
    if len(works) != len(rows) or works != sorted(set(works)) or not set(works) <= set(range(len(yard[3]))):
        return None
    out, leasts = set(), []
    for work, low, high, ways in rows:
        every = set(range(len(yard[3][work][2])))
        if not 0 <= low < high <= yard[0] or not ways or list(ways) != sorted(set(ways)) or not set(ways) <= every:
            return None
        out |= {("ahead", work, low), ("from", work, high)} | {("way", work, way) for way in every - set(ways)}
        goings = [(way, plain_days(yard, work, way, day)) for day in range(low, high) for way in ways]
        held = [len(set(span) & set(going)) * yard[3][work][2][way][2][stuff] for way, going in goings if going]
        leasts.append(min(held, default=10 ** 6))
    return out if sum(leasts) > sum([yard[2][stuff][day] for day in span]) else None


class PlainRooms:
    """What is known of [13], as sets of all that may be: begins, ways, and whether it stays."""

    def __init__(self, yard, kept):
        self.rooms = {}
        for work, (low, high, ways) in enumerate(yard[3]):
            self.rooms["begin", work] = set(range(low, high))
            self.rooms["way", work] = set(range(len(ways)))
            self.rooms["stay", work] = {True, False} if kept and kept[work] is not None else {False}

    def good(self, saying):
        """The room that the saying is of, and all in it of which it holds."""
        word, work, number = saying
        key, test = {
            "from": ("begin", lambda thing: thing >= number), "ahead": ("begin", lambda thing: thing < number),
            "way": ("way", lambda thing: thing == number), "not": ("way", lambda thing: thing != number),
            "stays": ("stay", lambda thing: thing), "moves": ("stay", lambda thing: not thing),
        }[word]
        return (key, work), {thing for thing in self.rooms[key, work] if test(thing)}

    def take(self, saying):
        """Whether it can be taken as holding."""
        key, good = self.good(saying)
        self.rooms[key] = good
        return bool(good)

    def press(self, line):
        """False where this leads to nothing."""
        left = []
        for saying in line:
            key, good = self.good(saying)
            if good == self.rooms[key]:
                return True
            if good:
                left.append(saying)
        if len(left) == 1:
            return self.take(left[0])
        return bool(left)


AGAINST = {"from": "ahead", "ahead": "from", "way": "not", "not": "way", "stays": "moves", "moves": "stays"}


def plain_led(yard, kept, lines, line, numbers):
    """Whether these numbers of lines are right for a line by [13]."""
    if not plain_is_line(yard, line) or not set(numbers) <= set(range(len(lines))):
        return False
    rooms = PlainRooms(yard, kept)
    for word, work, number in line:
        if not rooms.take((AGAINST[word], work, number)):
            return True
    return not all([rooms.press(lines[number]) for number in numbers])


def plain_first_bad(yard, log, bound=None, kept=(), most=None):
    """The first row that isn't right by [14], or None."""
    for at, (line, reason) in enumerate(log):
        if reason[:1] == ("led",):
            right = plain_led(yard, kept, [row[0] for row in log[:at]], line, reason[1:])
        else:
            right = plain_line(yard, reason, bound, kept, most) == line
        if not right:
            return at
    return None


def chance_reason(chance, yard, ask):
    """A reason by chance that often bears a line, and is now and then a little wrong."""
    days, _, stuffs, works, ties = yard
    odd = chance.choice((0, 0, 0, 1))

    def place(count):
        return chance.randint(-odd, max(count - 1, 0) + odd)

    work = place(len(works))
    word = chance.choice(("alone", "tie", "stretch", "stretch", "kept", "few"))
    if word == "alone":
        things = [work, place(days)]
    elif word == "tie":
        things = [place(len(ties)), place(days), place(days + 1)]
    elif word == "stretch":
        first = place(days)
        past = chance.randint(first + 1 - odd, max(days, first + 1) + odd)
        things = [place(len(stuffs)), first, past, chance_rows(chance, yard, odd)]
    elif word == "kept":
        things = [work, place(4)]
    else:
        count = 1 + (ask["most"] or 0) + chance.choice((0, 0, odd))
        things = sorted([place(len(works)) for _ in range(count)])
    if odd and chance.random() < 0.2:
        things = things[:-1] if chance.random() < 0.5 else [*things, 0]
    return (word, *things)


def chance_rows(chance, yard, odd):
    rows = []
    for work in range(len(yard[3])):
        if chance.random() < 0.8:
            low = chance.randint(0, yard[0] - 1)
            high = chance.randint(low + 1 - odd, min(yard[0], low + 2))
            every = range(len(yard[3][work][2]))
            ways = [way for way in every if chance.random() < 0.8] or [0]
            rows.append((work, low, high, tuple(ways[::-1] if odd else ways)))
    if odd:
        chance.shuffle(rows)
    return tuple(rows)
