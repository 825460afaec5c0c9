"""What a search has taken as holding, and the rows that led to it."""

from hodman.known import Known
from hodman.measures import Measures
from hodman.rules import line_of
from hodman.sayings import turned


class Trail:
    """The sayings that were taken, in order, with a log that tells why."""

    def __init__(self, ask):
        self.ask = ask
        self.measures = Measures(ask[0])
        self.at_first = Known(ask)
        self.known = Known(ask)
        self.log = []
        # The rows that are pressed again whatever is known.
        self.standing = []
        # The line that each reason bears, and its row where it has one.
        self.borne = {}
        self.numbers = {}
        # Each taken saying, with the row that led to it or None for a guess.
        self.taken = []
        # For each guess how many sayings were taken ahead of it, and what was known then.
        self.marks = []

    def suppose(self, saying):
        """Takes a guess as holding."""
        self.marks.append((len(self.taken), self.known.saved()))
        self.accept(saying, None)

    def accept(self, saying, row):
        """Takes a saying as holding, for the row that led to it."""
        self.known.accept(saying)
        self.taken.append((saying, row))

    def add_row(self, sayings, reason):
        """Adds a row that stands; its number."""
        self.log.append((sayings, reason))
        self.standing.append(len(self.log) - 1)
        return len(self.log) - 1

    def use_row(self, row):
        """Presses the line of a row that stands; the row where this leads to nothing, else None."""
        choices = self.known.open_of(self.log[row][0])
        return self.turn(choices, row) if turns(choices) else None

    def use(self, reason):
        """Presses the line that the reason bears; its row where this leads to nothing, else None."""
        if reason not in self.borne:
            self.borne[reason] = line_of(self.ask, reason)
        choices = self.known.open_of(self.borne[reason])
        return self.turn(choices, self.row_of(reason)) if turns(choices) else None

    def row_of(self, reason):
        """The row of a reason, which has none before its line turns something."""
        if reason not in self.numbers:
            self.numbers[reason] = len(self.log)
            self.log.append((self.borne[reason], reason))
        return self.numbers[reason]

    def turn(self, choices, row):
        """Takes the one choice that a row leaves; the row where it leaves none."""
        if not choices:
            return row
        self.accept(choices[0], row)
        return None

    def back_to(self, level):
        """Lets go all guesses but so many, and what followed from them."""
        if level < len(self.marks):
            count, saved = self.marks[level]
            self.known.set_again(saved)
            self.taken = self.taken[:count]
            self.marks = self.marks[:level]

    def level_of(self, place):
        """How many guesses were made up to the saying taken at that place."""
        return len([count for count, saved in self.marks if count <= place])

    def place_of(self, fact):
        """The place of the first taken saying that tells the fact; None where it was known at first."""
        if self.at_first.truth(fact):
            return None
        for place, (saying, row) in enumerate(self.taken):
            if tells(saying, fact):
                return place
        return None

    def facts_against(self, row, but):
        """The facts by which no saying of the row's line but that one holds."""
        facts = []
        for saying in self.log[row][0]:
            if saying != but:
                facts += self.single_facts(turned(saying))
        return facts

    def single_facts(self, fact):
        """The fact; of a way that the others aren't left, since these may have gone one by one."""
        word, work, number = fact
        if word != "way":
            return [fact]
        ways = self.ask[0][3][work][2]
        return [("not", work, way) for way in range(len(ways)) if way != number]


def turns(choices):
    """Whether a line that leaves these choices, or None, turns something."""
    return choices is not None and len(choices) < 2


def tells(saying, fact):
    """Whether the fact, of one way that isn't left or of no way, is known once the saying is taken."""
    word, work, number = fact
    if saying[1] != work:
        return False
    if word == "from":
        return saying[0] == "from" and saying[2] >= number
    if word == "ahead":
        return saying[0] == "ahead" and saying[2] <= number
    if word == "not":
        return saying == fact or (saying[0] == "way" and saying[2] != number)
    return saying[0] == word
