"""What is known of each work while lines are pressed."""

AS_TOLD = ("from", "way", "stays")


class Known:
    """For each work its least beginning, the day ahead of which it begins, the ways left, and whether it stays."""

    def __init__(self, ask):
        yard, pairs = ask[0], ask[2]
        self.least = [low for low, high, ways in yard[3]]
        self.until = [high for low, high, ways in yard[3]]
        self.left = [tuple(range(len(ways))) for low, high, ways in yard[3]]
        # None stands for open.
        self.stay = [False if pair is None else None for pair in pairs]

    def truth(self, saying):
        """True where the saying is known to hold, False where it is known not to, else None."""
        word, work, number = saying
        if word in ("from", "ahead"):
            truth = truth_of_from(self.least[work], self.until[work], number)
        elif word in ("way", "not"):
            truth = truth_of_way(self.left[work], number)
        else:
            truth = self.stay[work]
        return truth if truth is None or word in AS_TOLD else not truth

    def accept(self, saying):
        """Takes as holding what is not known not to hold."""
        word, work, number = saying
        if word == "from":
            self.least[work] = max(self.least[work], number)
        elif word == "ahead":
            self.until[work] = min(self.until[work], number)
        elif word == "way":
            self.left[work] = (number,)
        elif word == "not":
            self.left[work] = tuple([way for way in self.left[work] if way != number])
        else:
            self.stay[work] = word == "stays"

    def open_of(self, sayings):
        """The sayings that may hold, as far as is known; None where one is known to."""
        out = []
        for saying in sayings:
            truth = self.truth(saying)
            if truth is None:
                out.append(saying)
            elif truth:
                return None
        return out

    def saved(self):
        """All that is known, to be set again."""
        return (tuple(self.least), tuple(self.until), tuple(self.left), tuple(self.stay))

    def set_again(self, saved):
        """Knows again what was known when it was saved."""
        least, until, left, stay = saved
        self.least, self.until = list(least), list(until)
        self.left, self.stay = list(left), list(stay)


def truth_of_from(least, until, day):
    """The truth of beginning on that day or later."""
    if least >= day:
        return True
    return False if until <= day else None


def truth_of_way(left, way):
    """The truth of going by that way."""
    if way not in left:
        return False
    return True if len(left) == 1 else None
