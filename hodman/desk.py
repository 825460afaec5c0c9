"""A desk at which a book is told and asked by lines."""

from hodman.book import Book
from hodman.errors import BadText, Broken, Missing, NothingLeft, YardError
from hodman.pages import read_step, step_text


class Desk:
    """A book that lines are said to."""

    def __init__(self, *, book=None):
        # A book without works is as false as None, so None itself is asked for.
        self.own = Book() if book is None else book

    def book(self):
        """The very book."""
        return self.own

    def say(self, line):
        """The answer to a line."""
        try:
            return answer_to(self.own, line)
        except Broken as broken:
            return f"no {broken.word} {broken.at}"
        except (YardError, Missing, NothingLeft) as refused:
            return f"no {refused.word}"


def answer_to(book, line):
    """The answer to a line where nothing is refused."""
    teller = TELLERS.get(line)
    if teller is not None:
        return teller(book)
    deeds = deeds_of(line)
    if deeds is None:
        return "what"
    return " ".join(["done" if answer is None else str(answer) for answer in book.take(deeds)])


def deeds_of(line):
    """The deeds of a line, or None where it tells none."""
    try:
        return read_step(line)
    except BadText:
        return None


def tell_undo(book):
    """Takes the last step back."""
    return step_text(book.undo())


def tell_redo(book):
    """Does a step again."""
    return step_text(book.redo())


def tell_plan(book):
    """The rows of the plan."""
    return rows_text(book.plan())


def tell_kept(book):
    """The rows of what is kept."""
    return rows_text(book.kept() or [])


def tell_ties(book):
    """The rows of the ties."""
    return rows_text(book.ties())


def tell_works(book):
    """The rows of the works, without their ways."""
    return rows_text([row[:3] for row in book.works()])


def tell_stuffs(book):
    """The rows of the stuffs."""
    return rows_text([(name, *numbers) for name, numbers in book.stuffs()])


def tell_shut(book):
    """The shut days, a row each."""
    return rows_text([(day,) for day in book.shut()])


def tell_moves(book):
    """The names of the kept works that move, a row each."""
    return rows_text([(name,) for name in book.moves()])


def tell_end(book):
    """The end."""
    return str(book.end())


def rows_text(rows):
    """The rows as a text, their things with blanks between."""
    if not rows:
        return "none"
    return ", ".join([" ".join([str(thing) for thing in row]) for row in rows])


TELLERS = {
    "undo": tell_undo, "redo": tell_redo, "plan": tell_plan, "kept": tell_kept, "ties": tell_ties,
    "works": tell_works, "stuffs": tell_stuffs, "shut": tell_shut, "moves": tell_moves, "end": tell_end,
}
