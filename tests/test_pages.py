"""The interface of hodman/pages.py."""

import inspect
import random
import re
import unittest

from hodman.book import Book
from hodman.pages import deed_text, page, read_deed, read_page
from tests.helper import FAR, all_of, answers_of, chance_deed, refusal, told

NAME = "[a-z]{1,8}"
COUNT = "(?:0|[1-9][0-9]{0,2})"
NUMBER = "(?:0|-?[1-9][0-9]{0,2})"
WAY = rf"{COUNT}r?(?:\+{NAME}\*{COUNT})*"
WAYS = f"{WAY}(?:/{WAY})*"
DEED = re.compile("|".join([
    f"stuff {NAME} {NUMBER}", f"stock {NAME} {NUMBER} {NUMBER}", f"(?:gone|drop|any) {NAME}", f"work {NAME} {WAYS}",
    f"tie {NUMBER} {NAME} {NAME} {NUMBER}", f"(?:cut|shut|unshut) {NUMBER}", f"(?:wait|begun) {NAME} {NUMBER}",
    "keep", "forget",
]))
TEXTS = {
    "stuff wood 3": ("stuff", "wood", 3), "stuff a 0": ("stuff", "a", 0), "stuff abcdefgh -999": ("stuff", "abcdefgh", -999),
    "stock wood 0 10": ("stock", "wood", 0, 10), "stock wood -1 100": ("stock", "wood", -1, 100), "gone wood": ("gone", "wood"),
    "work ox 3r+stone*1+wood*2/2": ("work", "ox", ((3, 1, (("stone", 1), ("wood", 2))), (2, 0, ()))),
    "work ox 0": ("work", "ox", ((0, 0, ()),)), "work r 999r": ("work", "r", ((999, 1, ()),)),
    "work ox 1/2/3/4/5r": ("work", "ox", ((1, 0, ()), (2, 0, ()), (3, 0, ()), (4, 0, ()), (5, 1, ()))),
    "work ox 10+b*0+a*999+b*1": ("work", "ox", ((10, 0, (("b", 0), ("a", 999), ("b", 1))),)),
    "work ox 1r+r*1/1+r*1": ("work", "ox", ((1, 1, (("r", 1),)), (1, 0, (("r", 1),)))),
    "drop ox": ("drop", "ox"), "tie 1 ox wall -20": ("tie", 1, "ox", "wall", -20), "tie -5 ox ox 0": ("tie", -5, "ox", "ox", 0),
    "cut 1": ("cut", 1), "cut 999": ("cut", 999), "shut 0": ("shut", 0), "unshut 20": ("unshut", 20),
    "wait ox 5": ("wait", "ox", 5), "begun ox -12": ("begun", "ox", -12), "any ox": ("any", "ox"), "any any": ("any", "any"),
    "keep": ("keep",), "forget": ("forget",),
}
SIGNS = ("", " ", "  ", "0", "1", "9", "-", "+", "*", "/", "r", "a", "z", "A", ";", "\n", "\t", "\r", "_", ".", "\u0663", "\xe9",
         "\xb2", "\u2003", "r+a*1", "/1")
STEPS = (
    [("stuff", "wood", 3)], [("work", "ox", ((2, 1, (("wood", 2),)), (3, 0, ()))), ("work", "wall", ((1, 0, ()),))],
    [("tie", 1, "ox", "wall", -2)], [("shut", 1)], [("keep",)], [("stock", "wood", 0, 0), ("begun", "wall", 4), ("cut", 1)],
)
PAGE = (
    "days 5\nstuff wood 3\nwork ox 2r+wood*2/3;work wall 1\ntie 1 ox wall -2\nshut 1\nkeep\n"
    "stock wood 0 0;begun wall 4;cut 1\n"
)


def bad_text(row):
    return ("BadText", {"row": row, "word": "badtext"})


def book_of(steps, days=5):
    book = Book(days=days)
    for deeds in steps:
        book.take(deeds)
    return book


def plain_bad_row(text):
    """The first row that isn't so written, in which a deed is refused, or that lacks its line feed; or None."""
    rows = re.findall("[^\n]*\n|[^\n]+$", text) or [""]
    book = None
    for at, row in enumerate(rows):
        if not row.endswith("\n"):
            return at
        if at == 0:
            if not re.fullmatch(f"days {NUMBER}\n", row) or not 1 <= int(row[5:]) <= 20:
                return 0
            book = Book(days=int(row[5:]))
            continue
        parts = row[:-1].split(";")
        if not all([DEED.fullmatch(part) for part in parts]):
            return at
        deeds = [read_deed(part) for part in parts]
        if refusal(book.do, deeds[0]) if len(deeds) == 1 else refusal(book.all_or_none, deeds):
            return at
    return None


class Arguments(unittest.TestCase):
    def test_as_told(self):
        for call, things in ((deed_text, "(deed)"), (read_deed, "(text)"), (page, "(book)"), (read_page, "(text)")):
            self.assertEqual(str(inspect.signature(call)), things)

    def test_by_name(self):
        self.assertEqual(deed_text(deed=("shut", 1)), "shut 1")
        self.assertEqual(read_deed(text="shut 1"), ("shut", 1))
        self.assertEqual(page(book=Book()), "days 10\n")
        self.assertEqual(read_page(text="days 10\n"), Book())


class Texts(unittest.TestCase):
    def test_there_and_back(self):
        for text, deed in TEXTS.items():
            self.assertEqual(deed_text(deed), text)
            self.assertEqual(read_deed(text), deed)
            self.assertTrue(DEED.fullmatch(text), text)

    def test_tuples_all_through(self):
        deed = read_deed("work ox 3r+stone*1+wood*2/2")
        self.assertEqual({type(deed), type(deed[2]), type(deed[2][0]), type(deed[2][0][2]), type(deed[2][0][2][0])}, {tuple})

    def test_chance(self):
        for seed in range(2000):
            chance = random.Random(seed)
            deed = self.draw(chance)
            text = deed_text(deed)
            self.assertTrue(DEED.fullmatch(text), text)
            self.assertEqual(read_deed(text), deed)

    def draw(self, chance):
        """A deed as can be read, of any numbers of up to three figures."""
        text = chance.choice(list(TEXTS))
        deed = TEXTS[text]
        things = []
        for thing in deed[1:]:
            if isinstance(thing, int):
                thing = chance.choice((0, 1, 9, 10, 99, 100, 999, -1, -10, -999, chance.randint(-999, 999)))
            elif isinstance(thing, str):
                thing = self.name(chance)
            else:
                thing = tuple([self.way(chance) for _ in range(chance.randint(1, 5))])
            things.append(thing)
        return (deed[0], *things)

    def name(self, chance):
        return "".join(chance.choices("abcdefghijklmnopqrstuvwxyz", k=chance.randint(1, 8)))

    def way(self, chance):
        needs = [(self.name(chance), chance.choice((0, 1, 10, 999))) for _ in range(chance.randint(0, 4))]
        return (chance.choice((0, 1, 9, 10, 999)), chance.randint(0, 1), tuple(needs))

    def test_other_texts(self):
        for text in (
            "", " ", "shut", "shut ", " shut 1", "shut 1 ", "shut  1", "shut\t1", "shut 1\n", "\nshut 1", "shut 1;", "shut 1;shut 2",
            "shut 01", "shut 00", "shut -0", "shut -01", "shut --1", "shut +1", "shut 1000", "shut -1000", "shut 1_0", "shut 1.0",
            "shut x", "shut -", "shut \u0661", "shut \xb2", "Shut 1", "SHUT 1", "shuts 1", "hut 1", "shut 1 2", "keep ", "keep 1",
            "forget it", "stuff Wood 1", "stuff abcdefghi 1", "stuff  1", "stuff w1 1", "stuff wood", "stuff wood 1 2", "stuff 1 wood",
            "work ox", "work ox ", "work ox /", "work ox 1/", "work ox /1", "work ox 1//2", "work ox r", "work ox -1", "work ox 1rr",
            "work ox 01", "work ox 1000", "work ox 1+", "work ox 1+a", "work ox 1+a*", "work ox 1+*1", "work ox 1+a*-1", "work ox 1+a*01",
            "work ox 1+A*1", "work ox 1+abcdefghi*1", "work ox 1+a*1*1", "work ox 1+a*1+", "work ox 1+a*1r", "work ox +a*1", "work ox 1a*1",
            "work ox 1 r", "work ox 1 2", "work 1 1", "tie 1 ox wall", "tie ox wall 1 0", "tie 1 ox wall 0 0", "cut ox", "undo", "redo",
            "plan", "days 10", f"cut {FAR}", "what", "any", "any 1",
        ):
            self.assertEqual(told(read_deed, text), bad_text(0), text)

    def test_spoilt(self):
        read, spoilt = 0, 0
        for text in TEXTS:
            for at in range(len(text) + 1):
                for sign in SIGNS:
                    for new in (text[:at] + sign + text[at:], text[:at] + sign + text[at + 1:]):
                        if DEED.fullmatch(new):
                            read += 1
                            self.assertEqual(deed_text(read_deed(new)), new)
                        else:
                            spoilt += 1
                            self.assertEqual(told(read_deed, new), bad_text(0), new)
        self.assertGreater(min(read, spoilt), 1000)


class Pages(unittest.TestCase):
    def test_as_written(self):
        self.assertEqual(page(book_of(STEPS)), PAGE)
        book = read_page(PAGE)
        self.assertIs(type(book), Book)
        self.assertEqual((book, book.steps()), (book_of(STEPS), list(STEPS)))
        self.assertEqual((all_of(book), answers_of(book)), (all_of(book_of(STEPS)), answers_of(book_of(STEPS))))

    def test_no_steps(self):
        for days in (1, 10, 20):
            self.assertEqual(page(Book(days=days)), f"days {days}\n")
            book = read_page(f"days {days}\n")
            self.assertEqual((book, book.steps()), (Book(days=days), []))
            self.assertEqual(told(book.undo)[0], "NothingLeft")

    def test_steps_can_be_taken_back(self):
        book = read_page(PAGE)
        for deeds in reversed(STEPS):
            self.assertEqual(book.undo(), deeds)
        self.assertEqual(book, Book(days=5))
        for deeds in STEPS:
            self.assertEqual(book.redo(), deeds)
        self.assertEqual(book, book_of(STEPS))

    def test_what_was_taken_back_is_not_on_it(self):
        book = book_of(STEPS)
        book.undo()
        book.undo()
        self.assertEqual(page(book), "".join([row + "\n" for row in PAGE.split("\n")[:5]]))
        self.assertEqual(told(read_page(page(book)).redo)[0], "NothingLeft")

    def test_days(self):
        for first in (
            "days 0", "days 21", "days -1", "days 999", "days 1000", "days 05", "days", "days ", "days  5", " days 5", "days 5 ", "days 5 5",
            "day 5", "Days 5", "days five", "days\t5", "days 5;", "days 5;shut 1", "", "shut 1", "days 5\r", "days +5", "days -0", "days-5",
        ):
            self.assertEqual(told(read_page, first + "\n"), bad_text(0), first)
            self.assertEqual(told(read_page, first + "\nshut 1\n"), bad_text(0), first)
            self.assertEqual(told(read_page, first + "\nwrong"), bad_text(0), first)

    def test_line_feeds(self):
        self.assertEqual(told(read_page, ""), bad_text(0))
        self.assertEqual(told(read_page, "days 5"), bad_text(0))
        self.assertEqual(told(read_page, "days 5\nshut 1"), bad_text(1))
        self.assertEqual(told(read_page, "days 5\nshut 1\nshut 2"), bad_text(2))
        self.assertEqual(told(read_page, "days 5\nshut 9\nshut 2"), bad_text(1))
        self.assertEqual(told(read_page, "\n"), bad_text(0))
        self.assertEqual(told(read_page, "\ndays 5\n"), bad_text(0))
        self.assertEqual(told(read_page, "days 5\n\n"), bad_text(1))
        self.assertEqual(told(read_page, "days 5\n\nshut 1\n"), bad_text(1))
        self.assertEqual(told(read_page, "days 5\nshut 1\n\n"), bad_text(2))
        self.assertEqual(told(read_page, PAGE[:-1]), bad_text(6))
        for feed in ("\r\n", "\r", "\x0b", "\x0c", "\x1c", "\x85", "\u2028", "\n\r"):
            self.assertIsNotNone(told(read_page, PAGE.replace("\n", feed)), repr(feed))

    def test_refused_deeds(self):
        for row in (
            "shut 5", "cut 1", "drop ox", "stuff wood 10", "shut 1;shut 5", "work ox 1;work ox 1", "work ox 1/1/1/1", "keep;cut 9",
            "stuff wood 0;work ox 1+wood*1;keep", "tie 2 a b 0", "gone wood;", ";shut 1", "shut 1;;shut 2", "shut 1; shut 2", "undo", "days 5",
        ):
            self.assertEqual(told(read_page, f"days 5\n{row}\n"), bad_text(1), row)
            self.assertEqual(told(read_page, f"days 5\nshut 0\n{row}\nshut 1\n"), bad_text(2), row)
        no_plan = "days 5\nstuff wood 0\nwork ox 1+wood*1\nkeep\n"
        self.assertEqual(told(read_page, no_plan), bad_text(3))
        self.assertIsNotNone(refusal(read_page, no_plan).__cause__)

    def test_rows_put_in_left_out_doubled_exchanged(self):
        rows = PAGE.split("\n")[:-1]
        pages = []
        for at in range(len(rows)):
            pages += [rows[:at] + rows[at + 1:], rows[:at] + [rows[at]] + rows[at:], rows[:at] + [""] + rows[at:]]
            pages += [rows[:at] + [new] + rows[at:] for new in ("shut 2", "days 5", "keep", "cut 1", "wrong", "forget;keep", "tie 0 ox wall 0")]
            for other in range(at):
                swapped = list(rows)
                swapped[at], swapped[other] = swapped[other], swapped[at]
                pages.append(swapped)
        seen = set()
        for some in pages:
            for last in ("\n", ""):
                seen.add(self.compare("\n".join(some) + last))
        self.assertLessEqual({None, 0, 1, 2, 3, 4, 5, 6}, seen)

    def compare(self, text):
        bad = plain_bad_row(text)
        if bad is None:
            self.assertEqual(page(read_page(text)), text)
        else:
            self.assertEqual(told(read_page, text), bad_text(bad), text)
        return bad

    def test_spoilt(self):
        seen = set()
        for at in range(len(PAGE) + 1):
            for sign in ("", " ", "0", "1", "-", "a", ";", "\n", "r", "\r", "9"):
                seen.add(self.compare(PAGE[:at] + sign + PAGE[at:]))
                seen.add(self.compare(PAGE[:at] + sign + PAGE[at + 1:]))
        self.assertLessEqual({None, 0, 1, 2, 3, 4, 5, 6}, seen)

    def test_chance(self):
        for seed in range(60):
            chance = random.Random(seed)
            book = Book(days=chance.randint(1, 6))
            for _ in range(20):
                deeds = [chance_deed(chance, book) for _ in range(chance.choice((1, 1, 2, 3)))]
                refusal(book.take, deeds)
                if chance.random() < 0.15:
                    refusal(book.undo)
            text = page(book)
            other = read_page(text)
            self.assertEqual(other, book)
            self.assertEqual(other.steps(), book.steps())
            self.assertEqual(page(other), text)
            self.assertIsNone(plain_bad_row(text))
            while book.steps():
                self.assertEqual(other.undo(), book.undo())
                self.assertEqual(other, book)

    def test_changes_nothing(self):
        book = book_of(STEPS)
        before = (all_of(book), book.steps())
        for _ in range(2):
            self.assertEqual(page(book), PAGE)
        self.assertEqual((all_of(book), book.steps()), before)
        one, other = read_page(PAGE), read_page(PAGE)
        one.do(("shut", 0))
        self.assertNotEqual(one, other)
        self.assertEqual(other, book)


if __name__ == "__main__":
    unittest.main()
