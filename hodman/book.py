"""A yard under edit, by names."""

from hodman.answers import answer_or_log
from hodman.deeds import all_done, done
from hodman.errors import BadDay, NoPlan, NothingLeft
from hodman.stand import empty_stand, rows_by_key, yard_of
from hodman.yards import MOST_DAYS, frozen


class Book:
    """What stands of a yard, the steps that led to it, and those that were taken back."""

    def __init__(self, *, days=MOST_DAYS // 2):
        if not 1 <= days <= MOST_DAYS:
            raise BadDay(days)
        self.stand = empty_stand(days)
        # Each step is (deeds, what stood ahead of it, what stood behind it).
        self.past = []
        # The step that is done again first stands last.
        self.undone = []
        self.several = False
        # What was found of the plan, kept only while the same stands.
        self.found = None

    def do(self, deed):
        """Does a deed; a tie's number, else None."""
        own = frozen(deed)
        behind, answer = done(self.stand, own)
        self.add_step((own,), behind)
        return answer

    def all_or_none(self, deeds):
        """Does all the deeds as one step, or none; a list of what they tell."""
        self.several = True
        try:
            own = tuple([frozen(deed) for deed in deeds])
            behind, answers = all_done(self.stand, own)
            if own:
                self.add_step(own, behind)
            return answers
        finally:
            self.several = False

    def take(self, deeds):
        """Does one deed as do does it, any other list as all_or_none; a list of what they tell."""
        if len(deeds) == 1:
            return [self.do(deeds[0])]
        return self.all_or_none(deeds)

    def busy(self):
        """Whether several deeds are being done as one."""
        return self.several

    def undo(self):
        """Takes the last step back; its deeds."""
        if len(self.past) == 0:
            raise NothingLeft()
        step = self.past.pop()
        self.undone.append(step)
        self.set_stand(step[1])
        return list(step[0])

    def redo(self):
        """Does the last step that was taken back again; its deeds."""
        if len(self.undone) == 0:
            raise NothingLeft()
        step = self.undone.pop()
        self.past.append(step)
        self.set_stand(step[2])
        return list(step[0])

    def steps(self):
        """The deeds of each step that stands, the eldest first."""
        return [list(deeds) for deeds, ahead, behind in self.past]

    def twin(self):
        """A book with all of this one that goes its own way."""
        other = Book(days=self.days())
        # What stands, and each step, is never changed, so that both books may have it.
        other.set_stand(self.stand)
        other.past = list(self.past)
        other.undone = list(self.undone)
        return other

    def days(self):
        """How many days there are."""
        return self.stand["days"]

    def shut(self):
        """The shut days, rising."""
        return list(self.stand["shut"])

    def stuffs(self):
        """For each stuff, by names, its name and how much of it is there on each day."""
        rows = self.stand["stuffs"]
        return [(name, list(rows[name])) for name in sorted(rows)]

    def works(self):
        """For each work, by names, (name, low, high, ways)."""
        return rows_by_key(self.stand, "works")

    def ties(self):
        """For each tie, by numbers, (number, kind, one, other, gap)."""
        return rows_by_key(self.stand, "ties")

    def kept(self):
        """For each kept work, by names, (name, begin, way); None where there is none."""
        rows = rows_by_key(self.stand, "kept")
        return rows if rows else None

    def yard(self):
        """The yard."""
        return yard_of(self.stand)

    def plan(self):
        """For each work, by names, (name, begin, way) in a plan of the soonest end that moves the fewest kept works."""
        return list(self.answer()[1])

    def end(self):
        """The end of the plan."""
        return self.answer()[0]

    def moves(self):
        """The names of the kept works that the plan moves."""
        return list(self.answer()[2])

    def sooner(self):
        """A log that no plan ends by a day sooner."""
        return list(self.answer()[3])

    def fewer(self):
        """A log that no plan of this end moves one kept work fewer."""
        return list(self.answer()[4])

    def add_step(self, deeds, behind):
        """Adds a step behind which that stands."""
        self.past.append((deeds, self.stand, behind))
        self.undone = []
        self.set_stand(behind)

    def set_stand(self, stand):
        """Lets something else stand, of which nothing is found yet."""
        self.stand = stand
        self.found = None

    def answer(self):
        """The tuple (end, plan, moves, sooner, fewer); NoPlan."""
        if self.found is None:
            self.found = answer_or_log(self.stand)
        answer, log = self.found
        if answer is None:
            raise NoPlan(log)
        return answer

    def __len__(self):
        return len(self.stand["works"])

    def __eq__(self, other):
        return isinstance(other, Book) and self.stand == other.stand

    def __repr__(self):
        return f"Book({self.days()} days, {len(self)} works)"
