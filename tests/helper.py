"""What several tests use: yards of chance with a seed, and a plain second telling of the document."""

import itertools
import random

FAR = 10 ** 39 + 7
BEYOND = (FAR, -FAR)


def refusal(call, *things, **named):
    """The error that a call raises, or None."""
    try:
        call(*things, **named)
    except (ValueError, LookupError) as error:
        return error
    return None


def told(call, *things, **named):
    """The class's name and fields of the error that a call raises, or None."""
    error = refusal(call, *things, **named)
    if error is None:
        return None
    return (error.__class__.__name__, dict(vars(error)))


def spoil(thing):
    """Changes all lists in what was told."""
    if isinstance(thing, (list, tuple)):
        for part in thing:
            spoil(part)
    if isinstance(thing, list):
        thing.append("more")
        thing.reverse()


def full_yard():
    """A yard that is as great as may be in every part."""
    way = (9, 1, (9, 0, 9))
    rows = tuple([tuple([9] * 20)] * 3)
    works = tuple([(0, 20, (way, (1, 0, (0, 0, 0)), (2, 0, (1, 2, 3))))] * 6)
    ties = tuple([(n % 2, n % 6, (n + 1) % 6, 20 if n % 2 else -20) for n in range(12)])
    return (20, tuple(range(20)), rows, works, ties)


def chance_yard(seed):
    """A yard by chance, the same for the same seed."""
    chance = random.Random(seed)
    days = chance.choice((1, 2, 3, 5, 8, 12, 20))
    shut = tuple([day for day in range(days) if chance.random() < 0.25])
    stuffs = tuple([tuple([chance.randint(0, 9) for _ in range(days)]) for _ in range(chance.randint(0, 3))])
    works = tuple([chance_work(chance, days, len(stuffs)) for _ in range(chance.randint(0, 6))])
    ties = ()
    if len(works) > 1:
        ties = tuple([chance_tie(chance, len(works)) for _ in range(chance.randint(0, 3))])
    return (days, shut, stuffs, works, ties)


def chance_work(chance, days, stuffs):
    low = chance.randrange(days)
    high = chance.randint(low + 1, days)
    ways = []
    for _ in range(chance.randint(1, 3)):
        needs = tuple([chance.randint(0, 5) for _ in range(stuffs)])
        ways.append((chance.randint(1, min(9, days + 1)), chance.randint(0, 1), needs))
    return (low, high, tuple(ways))


def chance_tie(chance, works):
    one, other = chance.sample(range(works), 2)
    return (chance.randint(0, 1), one, other, chance.randint(-12, 4))


def chance_plan(chance, yard):
    """A plan that often begins its works as they may."""
    plan = []
    for low, high, ways in yard[3]:
        begin = chance.randrange(low, high) if chance.random() < 0.9 else chance.randint(-2, 22)
        way = chance.randrange(len(ways)) if chance.random() < 0.95 else chance.randint(-2, 4)
        plan.append((begin, way))
    return plan


def plain_days(yard, work, way, begin):
    """The days of [6], one day after another."""
    long, rests, _ = yard[3][work][2][way]
    if rests == 1 and begin in yard[1]:
        return None
    going = []
    day = begin
    while len(going) < long:
        if day >= yard[0]:
            return None
        if rests == 0 or day not in yard[1]:
            going.append(day)
        day += 1
    return going


def plain_broken(yard, plan):
    """The first broken rule of [7], straight from its words."""
    goings = []
    for work, (begin, way) in enumerate(plan):
        low, high, ways = yard[3][work]
        going = None
        if begin in range(low, high) and way in range(len(ways)):
            going = plain_days(yard, work, way, begin)
        if going is None:
            return ("work", work)
        goings.append(going)
    for at, (kind, one, other, gap) in enumerate(yard[4]):
        since = max(goings[one]) + 1 if kind == 1 else plan[one][0]
        if not plan[other][0] >= since + gap:
            return ("tie", at)
    held = plain_table(yard, plan)
    for stuff, row in enumerate(held):
        for day, many in enumerate(row):
            if many > yard[2][stuff][day]:
                return ("stuff", stuff, day)
    return None


def plain_table(yard, plan):
    held = []
    for stuff in range(len(yard[2])):
        row = []
        for day in range(yard[0]):
            many = 0
            for work, (begin, way) in enumerate(plan):
                if day in plain_days(yard, work, way, begin):
                    many += yard[3][work][2][way][2][stuff]
            row.append(many)
        held.append(row)
    return held


def plain_end(yard, plan):
    end = 0
    for work, (begin, way) in enumerate(plan):
        end = max(end, plain_days(yard, work, way, begin)[-1] + 1)
    return end


def small_yard(seed):
    """A yard by chance of which all plans can be gone through; plans are often there."""
    chance = random.Random(seed)
    days = chance.randint(1, 5)
    shut = tuple([day for day in range(days) if chance.random() < 0.2])
    stuffs = tuple([tuple([chance.randint(1, 6) for _ in range(days)]) for _ in range(chance.randint(0, 2))])
    works = []
    for _ in range(chance.choice((0, 1, 2, 2, 3, 3, 3))):
        low = chance.randint(0, days // 3)
        high = chance.randint(max(low + 1, days - 2), days)
        ways = []
        for _ in range(chance.randint(1, 2)):
            needs = tuple([chance.randint(0, 4) for _ in stuffs])
            ways.append((chance.choice((1, 1, 2, 2, 3)), chance.randint(0, 1), needs))
        works.append((low, high, tuple(ways)))
    ties = ()
    if len(works) > 1:
        ties = tuple([small_tie(chance, len(works)) for _ in range(chance.randint(0, 3))])
    return (days, shut, stuffs, tuple(works), ties)


def small_tie(chance, works):
    one, other = chance.sample(range(works), 2)
    return (chance.randint(0, 1), one, other, chance.randint(-3, 1))


def chance_ask(chance, yard):
    """What is handed in by name of an ask: nothing kept, all, some; any number may move, none, some."""
    days, works = yard[0], yard[3]
    bound = chance.choice((None, None, days, chance.randint(0, days), chance.randint(days // 2, days)))
    kept = ()
    if chance.random() < 0.7:
        kept = tuple([None if chance.random() < 0.3 else chance_pair(chance, days, work) for work in works])
    most = chance.choice((None, 0, len(works), chance.randint(0, len(works))))
    return {"bound": bound, "kept": kept, "most": most}


def chance_pair(chance, days, work):
    low, high, ways = work
    begin = chance.randrange(low, high) if chance.random() < 0.8 else chance.randrange(days)
    return (begin, chance.randrange(len(ways)))


def plain_plans(yard, bound=None, kept=(), most=None):
    """All plans of the ask of [11]."""
    days, works = yard[0], yard[3]
    rooms = []
    for work, (low, high, ways) in enumerate(works):
        pairs = [(begin, way) for begin in range(low, high) for way in range(len(ways))]
        rooms.append([pair for pair in pairs if plain_days(yard, work, pair[1], pair[0])])
    out = []
    for plan in itertools.product(*rooms):
        moving = [pair for pair, keep in zip(plan, kept) if keep is not None and keep != pair]
        if most is not None and len(moving) > most:
            continue
        if plain_broken(yard, plan) is None and plain_end(yard, plan) <= (days if bound is None else bound):
            out.append(list(plan))
    return out


def plain_holds(plan, kept, saying):
    """Whether the saying of [9] holds."""
    word, work, number = saying
    stays = kept != () and kept[work] is not None and kept[work] == plan[work]
    return {
        "from": plan[work][0] >= number, "ahead": plan[work][0] < number, "way": plan[work][1] == number,
        "not": plan[work][1] != number, "stays": stays, "moves": not stays,
    }[word]


def plain_is_line(yard, line):
    """Whether this is a line of [10]."""
    every = set()
    for work, (_, _, ways) in enumerate(yard[3]):
        every |= {(word, work, day) for word in ("from", "ahead") for day in range(yard[0] + 1)}
        every |= {(word, work, way) for word in ("way", "not") for way in range(len(ways))}
        every |= {("stays", work, 0), ("moves", work, 0)}
    return isinstance(line, tuple) and set(line) <= every and list(line) == sorted(set(line))


def plain_line(yard, reason, bound=None, kept=(), most=None):
    """The line that a reason bears by [12], or None."""
    days, _, stuffs, works, ties = yard
    keeping = [work for work, pair in enumerate(kept) if pair is not None]
    out = None
    match reason:
        case ("alone", work, day) if work in range(len(works)) and day in range(days):
            out = {("ahead", work, day), ("from", work, day + 1)} | plain_alone(yard, work, day, bound)
        case ("tie", tie, day, till) if tie in range(len(ties)) and day in range(days) and till in range(days + 1):
            out = {("ahead", ties[tie][1], day), ("from", ties[tie][2], till)} | plain_tie(yard, tie, day, till)
        case ("stretch", stuff, first, past, rows) if stuff in range(len(stuffs)) and 0 <= first < past <= days:
            out = plain_stretch(yard, stuff, range(first, past), rows)
        case ("kept", work, part) if work in keeping and part in range(4):
            begin, way = kept[work]
            out = [
                {("moves", work, 0), ("from", work, begin)}, {("moves", work, 0), ("ahead", work, begin + 1)},
                {("moves", work, 0), ("way", work, way)},
                {("stays", work, 0), ("ahead", work, begin), ("from", work, begin + 1), ("not", work, way)},
            ][part]
        case ("few", *some) if most is not None and len(some) == most + 1:
            if set(some) <= set(keeping) and some == sorted(set(some)):
                out = {("stays", work, 0) for work in some}
    return None if out is None else tuple(sorted(out))


def plain_alone(yard, work, day, bound):
    out = set()
    for way, (_, _, needs) in enumerate(yard[3][work][2]):
        going = plain_days(yard, work, way, day)
        if going is None or max(going) + 1 > (yard[0] if bound is None else bound):
            continue
        if not [1 for at in going for stuff, row in enumerate(yard[2]) if row[at] < needs[stuff]]:
            out.add(("way", work, way))
    return out


def plain_tie(yard, tie, day, till):
    kind, one, _, gap = yard[4][tie]
    out = set()
    for way in range(len(yard[3][one][2])):
        goings = [plain_days(yard, one, way, begin) for begin in range(day, yard[0])]
        ends = [max(going) + 1 for going in goings if going] if kind == 1 else [day]
        if ends and min(ends) + gap < till:
            out.add(("way", one, way))
    return out


def plain_stretch(yard, stuff, span, rows):
    works = [row[0] for row in rows if len(row) == 4]
    if len(works) != len(rows) or works != sorted(set(works)) or not set(works) <= set(range(len(yard[3]))):
        return None
    out, leasts = set(), []
    for work, low, high, ways in rows:
        every = set(range(len(yard[3][work][2])))
        if not 0 <= low < high <= yard[0] or not ways or list(ways) != sorted(set(ways)) or not set(ways) <= every:
            return None
        out |= {("ahead", work, low), ("from", work, high)} | {("way", work, way) for way in every - set(ways)}
        goings = [(way, plain_days(yard, work, way, day)) for day in range(low, high) for way in ways]
        held = [len(set(span) & set(going)) * yard[3][work][2][way][2][stuff] for way, going in goings if going]
        leasts.append(min(held, default=10 ** 6))
    return out if sum(leasts) > sum([yard[2][stuff][day] for day in span]) else None


class PlainRooms:
    """What is known of [13], as sets of all that may be: begins, ways, and whether it stays."""

    def __init__(self, yard, kept):
        self.rooms = {}
        for work, (low, high, ways) in enumerate(yard[3]):
            self.rooms["begin", work] = set(range(low, high))
            self.rooms["way", work] = set(range(len(ways)))
            self.rooms["stay", work] = {True, False} if kept and kept[work] is not None else {False}

    def good(self, saying):
        """The room that the saying is of, and all in it of which it holds."""
        word, work, number = saying
        key, test = {
            "from": ("begin", lambda thing: thing >= number), "ahead": ("begin", lambda thing: thing < number),
            "way": ("way", lambda thing: thing == number), "not": ("way", lambda thing: thing != number),
            "stays": ("stay", lambda thing: thing), "moves": ("stay", lambda thing: not thing),
        }[word]
        return (key, work), {thing for thing in self.rooms[key, work] if test(thing)}

    def take(self, saying):
        """Whether it can be taken as holding."""
        key, good = self.good(saying)
        self.rooms[key] = good
        return bool(good)

    def press(self, line):
        """False where this leads to nothing."""
        left = []
        for saying in line:
            key, good = self.good(saying)
            if good == self.rooms[key]:
                return True
            if good:
                left.append(saying)
        if len(left) == 1:
            return self.take(left[0])
        return bool(left)


AGAINST = {"from": "ahead", "ahead": "from", "way": "not", "not": "way", "stays": "moves", "moves": "stays"}


def plain_led(yard, kept, lines, line, numbers):
    """Whether these numbers of lines are right for a line by [13]."""
    if not plain_is_line(yard, line) or not set(numbers) <= set(range(len(lines))):
        return False
    rooms = PlainRooms(yard, kept)
    for word, work, number in line:
        if not rooms.take((AGAINST[word], work, number)):
            return True
    return not all([rooms.press(lines[number]) for number in numbers])


def plain_first_bad(yard, log, bound=None, kept=(), most=None):
    """The first row that isn't right by [14], or None."""
    for at, (line, reason) in enumerate(log):
        if reason[:1] == ("led",):
            right = plain_led(yard, kept, [row[0] for row in log[:at]], line, reason[1:])
        else:
            right = plain_line(yard, reason, bound, kept, most) == line
        if not right:
            return at
    return None


def chance_reason(chance, yard, ask):
    """A reason by chance that often bears a line, and is now and then a little wrong."""
    days, _, stuffs, works, ties = yard
    odd = chance.choice((0, 0, 0, 1))

    def place(count):
        return chance.randint(-odd, max(count - 1, 0) + odd)

    work = place(len(works))
    word = chance.choice(("alone", "tie", "stretch", "stretch", "kept", "few"))
    if word == "alone":
        things = [work, place(days)]
    elif word == "tie":
        things = [place(len(ties)), place(days), place(days + 1)]
    elif word == "stretch":
        first = place(days)
        past = chance.randint(first + 1 - odd, max(days, first + 1) + odd)
        things = [place(len(stuffs)), first, past, chance_rows(chance, yard, odd)]
    elif word == "kept":
        things = [work, place(4)]
    else:
        count = 1 + (ask["most"] or 0) + chance.choice((0, 0, odd))
        things = sorted([place(len(works)) for _ in range(count)])
    if odd and chance.random() < 0.2:
        things = things[:-1] if chance.random() < 0.5 else [*things, 0]
    return (word, *things)


def chance_rows(chance, yard, odd):
    rows = []
    for work in range(len(yard[3])):
        if chance.random() < 0.8:
            low = chance.randint(0, yard[0] - 1)
            high = chance.randint(low + 1 - odd, min(yard[0], low + 2))
            every = range(len(yard[3][work][2]))
            ways = [way for way in every if chance.random() < 0.8] or [0]
            rows.append((work, low, high, tuple(ways[::-1] if odd else ways)))
    if odd:
        chance.shuffle(rows)
    return tuple(rows)


def log_faults(yard, log, **ask):
    """What is wrong of a log that is to show that the ask has no plan, by [14] and [16]; the empty list for nothing."""
    faults = []
    if not isinstance(log, list) or not log:
        return ["no rows"]
    bad = plain_first_bad(yard, log, **ask)
    if bad is not None:
        faults.append(f"row {bad} is not right")
    if [at for at, (line, _) in enumerate(log) if line == ()] != [len(log) - 1]:
        faults.append("not the last line alone is empty")
    telling = {number for _, reason in log if reason[:1] == ("led",) for number in reason[1:]}
    if telling != set(range(len(log) - 1)):
        faults.append("a row is not told by a later one")
    return faults


def plain_moves(plan, kept):
    """How many kept works move."""
    return len([1 for pair, keep in zip(plan, kept) if keep is not None and keep != pair])


class Refused(Exception):
    """What the plain second telling refuses with: a class's name and its fields."""

    def __init__(self, error, **fields):
        super().__init__(error)
        self.told = (error, {**fields, "word": error.lower()})


def plain_name(text):
    return len(text) in range(1, 9) and set(text) <= set("abcdefghijklmnopqrstuvwxyz")


THINGS = {
    "stuff": 3, "stock": 4, "gone": 2, "work": 3, "drop": 2, "tie": 5, "cut": 2, "shut": 2, "unshut": 2, "wait": 3,
    "begun": 3, "any": 2, "keep": 1, "forget": 1,
}


class PlainFacts:
    """What stands in a book, told a second time from the document's words."""

    def __init__(self, days):
        self.days, self.shut, self.number = days, set(), 1
        self.stuffs, self.works, self.ties, self.kept = {}, {}, {}, {}

    def do(self, deed, plan):
        """Does a deed; plan is asked, if it must be, for the rows of the plan, or None."""
        if len(deed) == 0 or THINGS.get(deed[0]) != len(deed):
            raise Refused("BadDeed")
        return getattr(self, "do_" + deed[0])(*deed[1:], *([plan] if deed[0] == "keep" else []))

    def refuse(self, due, error, **fields):
        if due:
            raise Refused(error, **fields)

    def must_be_free(self, name, rows):
        self.refuse(not plain_name(name), "BadName")
        self.refuse(name in rows, "Taken", name=name)

    def must_be_work(self, name):
        self.refuse(name not in self.works, "NoWork", name=name)

    def must_be_day(self, day):
        self.refuse(day not in range(self.days), "BadDay", day=day)

    def do_stuff(self, name, many):
        self.must_be_free(name, self.stuffs)
        self.refuse(many not in range(10), "BadMany")
        self.refuse(len(self.stuffs) == 3, "Full", most=3)
        self.stuffs[name] = [many for _ in range(self.days)]

    def do_stock(self, name, day, many):
        self.refuse(name not in self.stuffs, "NoStuff", name=name)
        self.must_be_day(day)
        self.refuse(many not in range(10), "BadMany")
        self.stuffs[name][day] = many

    def do_gone(self, name):
        self.refuse(name not in self.stuffs, "NoStuff", name=name)
        for work in sorted(self.works):
            for _, _, needs in self.works[work][2]:
                self.refuse(name in dict(needs), "Held", name=work)
        del self.stuffs[name]

    def do_work(self, name, ways):
        self.must_be_free(name, self.works)
        self.refuse(not ways, "BadWays", at=0)
        for at, way in enumerate(ways):
            self.refuse(at == 3 or not self.good_way(*way), "BadWays", at=at)
        for _, _, needs in ways:
            for stuff, _ in needs:
                self.refuse(stuff not in self.stuffs, "NoStuff", name=stuff)
        self.refuse(len(self.works) == 6, "Full", most=6)
        self.works[name] = [0, self.days, ways]

    def good_way(self, *things):
        if len(things) != 3 or things[0] not in range(1, 10) or things[1] not in (0, 1):
            return False
        for need in things[2]:
            if len(need) != 2 or not plain_name(need[0]) or need[1] not in range(1, 10):
                return False
        names = [name for name, _ in things[2]]
        return names == sorted(set(names))

    def do_drop(self, name):
        self.must_be_work(name)
        for number in sorted(self.ties):
            self.refuse(name in self.ties[number][1:3], "Tied", number=number)
        del self.works[name]
        self.kept.pop(name, None)

    def do_tie(self, kind, one, other, gap):
        self.must_be_work(one)
        self.must_be_work(other)
        self.refuse(one == other, "Same")
        self.refuse(kind not in (0, 1) or gap not in range(-20, 21), "BadGap")
        self.refuse(len(self.ties) == 12, "Full", most=12)
        self.ties[self.number] = (kind, one, other, gap)
        self.number += 1
        return self.number - 1

    def do_cut(self, number):
        self.refuse(number not in self.ties, "NoTie", name=number)
        del self.ties[number]

    def do_shut(self, day):
        self.must_be_day(day)
        self.shut.add(day)

    def do_unshut(self, day):
        self.must_be_day(day)
        self.shut.discard(day)

    def do_wait(self, name, day):
        self.must_be_work(name)
        self.must_be_day(day)
        self.works[name][:2] = [day, self.days]

    def do_begun(self, name, day):
        self.must_be_work(name)
        self.must_be_day(day)
        self.works[name][:2] = [day, day + 1]

    def do_any(self, name):
        self.must_be_work(name)
        self.works[name][:2] = [0, self.days]

    def do_keep(self, plan):
        rows = plan()
        self.refuse(rows is None, "NoPlan")
        self.kept = {name: (begin, way) for name, begin, way in rows}

    def do_forget(self):
        self.kept = {}

    def yard(self):
        names, stuffs = sorted(self.works), sorted(self.stuffs)
        works = []
        for name in names:
            low, high, ways = self.works[name]
            plain = [(long, rests, tuple([dict(needs).get(stuff, 0) for stuff in stuffs])) for long, rests, needs in ways]
            works.append((low, high, tuple(plain)))
        ties = []
        for number in sorted(self.ties):
            kind, one, other, gap = self.ties[number]
            ties.append((kind, names.index(one), names.index(other), gap))
        rows = tuple([tuple(self.stuffs[name]) for name in stuffs])
        return (self.days, tuple(sorted(self.shut)), rows, tuple(works), tuple(ties))

    def all(self):
        """All that a book tells but of its plan and its steps."""
        kept = [(name, *self.kept[name]) for name in sorted(self.kept)]
        return {
            "days": self.days, "shut": sorted(self.shut),
            "stuffs": [(name, list(self.stuffs[name])) for name in sorted(self.stuffs)],
            "works": [(name, *self.works[name]) for name in sorted(self.works)],
            "ties": [(number, *self.ties[number]) for number in sorted(self.ties)],
            "kept": kept or None, "yard": self.yard(),
        }


def all_of(book):
    """All that a book tells but of its plan and its steps."""
    return {
        "days": book.days(), "shut": book.shut(), "stuffs": book.stuffs(), "works": book.works(), "ties": book.ties(),
        "kept": book.kept(), "yard": book.yard(),
    }


def kept_of_book(book):
    """What is kept of each work, as an ask takes it."""
    rows = {name: (begin, way) for name, begin, way in book.kept() or []}
    return tuple([rows.get(row[0]) for row in book.works()])


def answers_of(book):
    """All that a book tells of its plan; the log of NoPlan alone where there is none."""
    error = refusal(book.plan)
    if error is not None:
        return error.log
    return (book.plan(), book.end(), book.moves(), book.sooner(), book.fewer())


def answer_faults(book):
    """What is wrong of what a book tells of its plan, by its logs and a plain judge; the empty list for nothing."""
    yard, kept, names = book.yard(), kept_of_book(book), [row[0] for row in book.works()]
    answer = answers_of(book)
    if isinstance(answer, list):
        return log_faults(yard, answer)
    rows, end, moves, sooner, fewer = answer
    plan = [(begin, way) for _, begin, way in rows]
    faults = []
    if [row[0] for row in rows] != names or plain_broken(yard, plan) is not None or plain_end(yard, plan) != end:
        faults.append("no plan of the end")
    if moves != [name for name, pair, keep in zip(names, plan, kept) if keep is not None and keep != pair]:
        faults.append("other moves")
    if not names or not moves:
        faults += [thing for thing, log, count in (("sooner", sooner, names), ("fewer", fewer, moves)) if log and not count]
    if names:
        faults += log_faults(yard, sooner, bound=end - 1)
    if moves:
        faults += log_faults(yard, fewer, bound=end, kept=kept, most=len(moves) - 1)
    return faults


WORK_NAMES = ("ox", "a", "wall", "abcdefgh", "z", "mason", "dig", "cart")
STUFF_NAMES = ("a", "wood", "ox", "stonesab", "z")
ODD_NAMES = ("", "abcdefghi", "Ox", "o x", "ox1", "a-b", "\xe4")


def chance_deed(chance, book):
    """A deed by chance that often can be done, and is often a little wrong."""
    odd = chance.random() < 0.15
    works = [row[0] for row in book.works()] or ["ox"]
    stuffs = [row[0] for row in book.stuffs()] or ["wood"]

    def number(low, high):
        return chance.choice((low - 1, high + 1, FAR, -FAR)) if odd and chance.random() < 0.5 else chance.randint(low, high)

    def name(there, pool):
        return chance.choice(pool + ODD_NAMES) if odd and chance.random() < 0.5 else chance.choice(there)

    work, stuff, day = name(works, WORK_NAMES), name(stuffs, STUFF_NAMES), number(0, book.days() - 1)
    deed = chance.choice((
        ("stuff", name(STUFF_NAMES, STUFF_NAMES), number(0, 9)), ("stock", stuff, day, number(0, 9)), ("gone", stuff),
        ("work", name(WORK_NAMES, WORK_NAMES), chance_ways(chance, stuffs, odd)),
        ("work", name(WORK_NAMES, WORK_NAMES), chance_ways(chance, stuffs, odd)),
        ("work", name(WORK_NAMES, WORK_NAMES), chance_ways(chance, stuffs, odd)), ("drop", work),
        ("tie", number(0, 1), work, name(works, WORK_NAMES), number(-3, 1)),
        ("tie", number(0, 1), work, name(works, WORK_NAMES), number(-20, -3)),
        ("cut", number(1, max([row[0] for row in book.ties()], default=1))), ("shut", day), ("unshut", day),
        ("wait", work, day), ("begun", work, day), ("any", work), ("keep",), ("keep",), ("forget",),
    ))
    if odd and chance.random() < 0.2:
        deed = chance.choice(((), deed[:-1], (*deed, 1), ("other", *deed[1:]), ("", *deed[1:])))
    return deed


def chance_ways(chance, stuffs, odd):
    ways = []
    for _ in range(chance.choice((0, 4, 5)) if odd and chance.random() < 0.3 else chance.randint(1, 3)):
        names = sorted([name for name in stuffs if chance.random() < 0.6])
        needs = [(name, chance.randint(1, 5)) for name in names]
        if odd and chance.random() < 0.3:
            needs = chance.choice(([("nothere", 1)], needs[::-1], needs * 2, [("Ox", 1)], [("a", 0)], [("a", 10)], [("a",)]))
        long, rests = chance.choice((1, 1, 2, 2, 3)), chance.randint(0, 1)
        if odd and chance.random() < 0.2:
            long, rests = chance.choice(((0, 0), (10, 0), (1, 2), (1, -1), (FAR, 0), (1, -FAR)))
        way = (long, rests, tuple(needs))
        ways.append((*way, 0) if odd and chance.random() < 0.05 else way)
    return tuple(ways)
