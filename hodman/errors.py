"""What the program refuses with, a class for each refusal."""


class YardError(ValueError):
    """What all refusals but those of missing things are under."""


class BadYard(YardError):
    """What is handed in as a yard is none."""

    def __init__(self, part, at):
        super().__init__(f"no yard: {part} wrong at {at}")
        self.word = "badyard"
        self.part = part
        self.at = at


class BadWork(YardError):
    """A number of no work."""

    def __init__(self, work):
        super().__init__(f"no work {work}")
        self.word = "badwork"
        self.work = work


class BadWay(YardError):
    """A number of no way of the work."""

    def __init__(self, way):
        super().__init__(f"no way {way}")
        self.word = "badway"
        self.way = way


class BadDay(YardError):
    """A number that is none of the days."""

    def __init__(self, day):
        super().__init__(f"no day {day}")
        self.word = "badday"
        self.day = day


class BadStuff(YardError):
    """A number of no stuff."""

    def __init__(self, stuff):
        super().__init__(f"no stuff {stuff}")
        self.word = "badstuff"
        self.stuff = stuff


class BadPlan(YardError):
    """No plan, or one of which a work can't be told."""

    def __init__(self, at):
        super().__init__(f"no plan: wrong at {at}")
        self.word = "badplan"
        self.at = at


class BadSaying(YardError):
    """What is handed in as a saying is none."""

    def __init__(self, at):
        super().__init__(f"no saying at {at}")
        self.word = "badsaying"
        self.at = at


class BadBound(YardError):
    """A bound by which no plan may be asked to end."""

    def __init__(self, bound):
        super().__init__(f"no bound {bound}")
        self.word = "badbound"
        self.bound = bound


class BadKept(YardError):
    """What is handed in as kept is not."""

    def __init__(self, at):
        super().__init__(f"not kept: wrong at {at}")
        self.word = "badkept"
        self.at = at


class BadMost(YardError):
    """A number that is no number of works that may move."""

    def __init__(self, most):
        super().__init__(f"not so many: {most}")
        self.word = "badmost"
        self.most = most


class NoLine(YardError):
    """The reason bears no line."""

    def __init__(self):
        super().__init__("no line")
        self.word = "noline"


class BadLog(YardError):
    """A row of the log is not right."""

    def __init__(self, row):
        super().__init__(f"not right: row {row}")
        self.word = "badlog"
        self.row = row


class NoPlan(YardError):
    """There is no plan, as the log shows."""

    def __init__(self, log):
        super().__init__("no plan")
        self.word = "noplan"
        # A caller may change its list later on; what was raised stays as it was.
        self.log = list(log)


class BadName(YardError):
    """A name of another form."""

    def __init__(self):
        super().__init__("no name")
        self.word = "badname"


class Taken(YardError):
    """The name is taken."""

    def __init__(self, name):
        super().__init__(f"taken: {name}")
        self.word = "taken"
        self.name = name


class Full(YardError):
    """There are as many as may be."""

    def __init__(self, most):
        super().__init__(f"full: {most}")
        self.word = "full"
        self.most = most


class BadMany(YardError):
    """So much of a stuff can't be."""

    def __init__(self):
        super().__init__("not so many")
        self.word = "badmany"


class BadWays(YardError):
    """What is handed in as ways are none."""

    def __init__(self, at):
        super().__init__(f"no way at {at}")
        self.word = "badways"
        self.at = at


class BadGap(YardError):
    """A kind or a gap that no tie has."""

    def __init__(self):
        super().__init__("no such kind or gap")
        self.word = "badgap"


class Same(YardError):
    """A tie of a work with itself."""

    def __init__(self):
        super().__init__("one and the same work")
        self.word = "same"


class Held(YardError):
    """A work needs the stuff."""

    def __init__(self, name):
        super().__init__(f"needed by {name}")
        self.word = "held"
        self.name = name


class Tied(YardError):
    """A tie holds the work."""

    def __init__(self, number):
        super().__init__(f"tied by {number}")
        self.word = "tied"
        self.number = number


class BadDeed(YardError):
    """No deed is of this form."""

    def __init__(self):
        super().__init__("no deed")
        self.word = "baddeed"


class Broken(YardError):
    """One of several deeds was refused."""

    def __init__(self, at):
        super().__init__(f"refused: deed {at}")
        self.word = "broken"
        self.at = at


class BadText(YardError):
    """A text that can't be read."""

    def __init__(self, row=0):
        super().__init__(f"no such text: row {row}")
        self.word = "badtext"
        self.row = row


class Missing(LookupError):
    """What is asked for by its name or number is not there."""


class NoWork(Missing):
    """There is no work of this name."""

    def __init__(self, name):
        super().__init__(f"no work {name}")
        self.word = "nowork"
        self.name = name


class NoStuff(Missing):
    """There is no stuff of this name."""

    def __init__(self, name):
        super().__init__(f"no stuff {name}")
        self.word = "nostuff"
        self.name = name


class NoTie(Missing):
    """There is no tie of this number."""

    def __init__(self, name):
        super().__init__(f"no tie {name}")
        self.word = "notie"
        self.name = name


class NothingLeft(IndexError):
    """No step is left to take back or to do again."""

    def __init__(self):
        super().__init__("nothing left")
        self.word = "nothingleft"
