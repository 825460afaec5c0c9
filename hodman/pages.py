"""Deeds and books as texts."""

from hodman.book import Book
from hodman.deeds import FORMS, is_name
from hodman.errors import BadDay, BadText, Missing, YardError

FIGURES = "0123456789"
MOST_FIGURES = 3


def deed_text(deed):
    """The text of a deed."""
    return " ".join([thing_text(thing) for thing in deed])


def read_deed(text):
    """The deed of a text."""
    words = text.split(" ")
    if words[0] not in FORMS or len(words) != 1 + len(FORMS[words[0]]):
        raise BadText()
    kinds = FORMS[words[0]]
    return (words[0], *[read_thing(kind, word) for kind, word in zip(kinds, words[1:])])


def page(book):
    """The text of a book: its days and its steps."""
    rows = [f"days {book.days()}", *[step_text(deeds) for deeds in book.steps()]]
    return "".join([f"{row}\n" for row in rows])


def read_page(text):
    """A book in which the steps of the text were done."""
    parts = text.split("\n")
    # What stands behind the last line feed is a row that lacks its own, unless it is nothing.
    rows, rest = parts[:-1], parts[-1]
    if len(rows) == 0:
        raise BadText(0)
    book = read_days(rows[0])
    for at, row in enumerate(rows[1:], start=1):
        do_row(book, at, row)
    if rest != "":
        raise BadText(len(rows))
    return book


def step_text(deeds):
    """The text of a step's deeds."""
    return ";".join([deed_text(deed) for deed in deeds])


def read_step(text):
    """The deeds of a step's text."""
    return [read_deed(part) for part in text.split(";")]


def thing_text(thing):
    """The text of a name, of a number or of ways."""
    if isinstance(thing, tuple):
        return "/".join([way_text(way) for way in thing])
    return str(thing)


def way_text(way):
    """The text of a way."""
    long, rests, needs = way
    mark = "r" if rests == 1 else ""
    return "".join([f"{long}{mark}", *[f"+{name}*{many}" for name, many in needs]])


def read_thing(kind, word):
    """The thing of a word, of which the deed's form tells the kind."""
    reader = READERS[kind]
    return reader(word)


def read_name(word):
    """The name that the word is."""
    if not is_name(word):
        raise BadText()
    return word


def read_number(word):
    """The number of a word."""
    if not word.startswith("-"):
        return read_count(word)
    number = read_count(word[1:])
    if number == 0:
        raise BadText()
    return -number


def read_count(word):
    """The number, not below nought, of a word."""
    if not (1 <= len(word) <= MOST_FIGURES and all([figure in FIGURES for figure in word])):
        raise BadText()
    if len(word) > 1 and word.startswith("0"):
        raise BadText()
    return int(word)


def read_ways(word):
    """The ways of a word."""
    return tuple([read_way(part) for part in word.split("/")])


def read_way(text):
    """The way of a text."""
    parts = text.split("+")
    rests = 1 if parts[0].endswith("r") else 0
    long = read_count(parts[0].removesuffix("r"))
    return (long, rests, tuple([read_need(part) for part in parts[1:]]))


def read_need(text):
    """The stuff's name and how much of it is needed."""
    name, sign, many = text.partition("*")
    return (read_name(name), read_count(many))


def read_days(row):
    """A new book of the days that a page's first row tells."""
    word, blank, many = row.partition(" ")
    if word != "days":
        raise BadText(0)
    try:
        return Book(days=read_number(many))
    except BadDay as refused:
        raise BadText(0) from refused


def do_row(book, at, row):
    """Does the step that a page's row tells."""
    try:
        book.take(read_step(row))
    except (YardError, Missing) as refused:
        raise BadText(at) from refused


READERS = {"name": read_name, "number": read_number, "ways": read_ways}
