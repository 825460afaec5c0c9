"""[1], what holds of the whole program."""

import ast
import copy
import itertools
import pathlib
import random
import unittest

from hodman.book import Book
from hodman.days import finish, holding, working
from hodman.desk import Desk
from hodman.judge import first_bad, lines_of, needed, shows
from hodman.pages import deed_text, page, read_deed, read_page
from hodman.plans import broken, end_of, moved, table
from hodman.rules import bears
from hodman.sayings import holds, line, opposite
from hodman.search import search
from hodman.soonest import fewest, rooms, soonest
from hodman.yards import is_yard, make_yard
from tests.helper import BEYOND, FAR, chance_ask, chance_reason, chance_yard, full_yard, refusal, small_yard, told

PACKAGE = pathlib.Path(__file__).resolve().parent.parent / "hodman"


class Order(unittest.TestCase):
    """Of several refusals that are due the one told first goes."""

    def test_arguments_in_their_order_those_by_name_behind(self):
        yard = full_yard()
        bad_yard = (21, *yard[1:])
        for wrong in itertools.product((False, True), repeat=5):
            for far in BEYOND:
                given = [bad_yard if wrong[0] else yard]
                given += [far if bad else 0 for bad in wrong[1:]]
                names = [name for name, bad in zip(("BadYard", "BadWork", "BadWay", "BadDay", "BadStuff"), wrong) if bad]
                self.check(holding, given, {}, names)
                if not wrong[4]:
                    self.check(working, given[:4], {}, names)
                    self.check(finish, given[:3], {"day": given[3]}, names)

    def check(self, call, given, named, names):
        error = refusal(call, *given, **named)
        self.assertEqual(error and error.__class__.__name__, names[0] if names else None)

    def test_the_yard_ahead_of_the_plan(self):
        for call in (broken, end_of, table):
            self.assertEqual(told(call, (0, (), (), (), ()), [(FAR, FAR)])[0], "BadYard")
            self.assertEqual(told(call, (1, (), (), (), ()), [(FAR, FAR)])[0], "BadPlan")

    def test_the_yard_ahead_of_all_else(self):
        ask = {"bound": FAR, "kept": ((FAR, FAR),), "most": FAR}
        good = (1, (), (), (), ())
        for part, at, yard in (
            ("days", 0, (21, (), (), (), ())), ("shut", 0, (1, (1,), (), (), ())), ("stuffs", 0, (1, (), ((),), (), ())),
            ("works", 0, (1, (), (), ((0, 2, ()),), ())), ("ties", 0, (1, (), (), (), ((0, 0, 1, 0),))),
        ):
            want = ("BadYard", {"part": part, "at": at, "word": "badyard"})
            self.assertEqual(told(opposite, yard, ("", FAR, FAR)), want)
            self.assertEqual(told(line, yard, [("", FAR, FAR)]), want)
            self.assertEqual(told(holds, yard, [(FAR, FAR)], [("", FAR, FAR)]), want)
            self.assertEqual(told(bears, yard, (), **ask), want)
            for call in (first_bad, shows, lines_of):
                self.assertEqual(told(call, yard, [((), ())], **ask), want)
            self.assertEqual(told(search, yard, **ask), want)
            self.assertEqual(told(soonest, yard), want)
            self.assertEqual(told(fewest, yard, ask["kept"], bound=FAR), want)
            self.assertEqual(told(rooms, yard, bound=FAR), want)
        self.assertEqual(told(search, good, **ask)[0], "BadBound")
        self.assertEqual(told(fewest, good, ask["kept"], bound=FAR)[0], "BadBound")
        self.assertEqual(told(fewest, good, ask["kept"])[0], "BadKept")
        self.assertEqual(told(rooms, good, bound=FAR)[0], "BadBound")


class Asking(unittest.TestCase):
    def answers(self, yard):
        out = [is_yard(yard)]
        plan = [(low, 0) for low, _, _ in yard[3]]
        for call in (broken, end_of, table):
            error = told(call, yard, plan)
            out.append(call(yard, plan) if error is None else error)
        out.append(moved(plan, tuple([(0, 0)] * len(plan))))
        for work in range(len(yard[3])):
            for day in range(yard[0]):
                out += [working(yard, work, 0, day), finish(yard, work, 0, day=day)]
                out += [holding(yard, work, 0, day, stuff, first=1) for stuff in range(len(yard[2]))]
        return out

    def lines(self, yard, seed):
        """What is told of an ask, and of the same reasons and log for the same seed."""
        chance = random.Random(seed)
        ask = chance_ask(chance, yard)
        out = []
        log = search(yard, **ask)[1] or []
        for reason in [chance_reason(chance, yard, ask) for _ in range(5)]:
            if told(bears, yard, reason, **ask) is None:
                log = [(bears(yard, reason, **ask), reason)]
                out.append(list(log[0][0]))
        out += [search(yard, **ask), needed(log), shows(yard, log, **ask), first_bad(yard, log, **ask)]
        out.append(told(lines_of, yard, log, **ask) or lines_of(yard, log, **ask))
        return out

    def test_lines_and_logs_tell_alike(self):
        for seed in range(60):
            yard = small_yard(seed)
            first = self.lines(yard, seed)
            for thing in self.lines(yard, seed):
                if isinstance(thing, list):
                    thing.append(77)
            self.assertEqual(self.lines(copy.deepcopy(yard), seed), first)

    def test_changes_nothing_and_tells_alike(self):
        for seed in range(60):
            yard = chance_yard(seed)
            before = copy.deepcopy(yard)
            first = self.answers(yard)
            self.assertEqual(self.answers(yard), first)
            self.assertEqual(self.answers(before), first)
            self.assertEqual(yard, before)

    def test_a_told_list_that_is_changed_changes_nothing_later(self):
        for seed in range(30):
            yard = chance_yard(seed)
            first = self.answers(yard)
            for thing in self.answers(yard):
                if isinstance(thing, list):
                    for part in thing:
                        if isinstance(part, list):
                            part.append(77)
                    thing.append(77)
            self.assertEqual(self.answers(yard), first)

    def test_what_is_refused_changes_nothing(self):
        yard = full_yard()
        first = self.answers(yard)
        for far in BEYOND:
            self.assertEqual(told(working, yard, 0, 0, far)[0], "BadDay")
            self.assertEqual(told(end_of, yard, [(far, far)] * 6)[0], "BadPlan")
            works = [(far, far, ())]
            self.assertEqual(told(make_yard, works)[0], "BadYard")
            self.assertEqual(works, [(far, far, ())])
        self.assertEqual(self.answers(yard), first)

    def test_truths_are_true_and_false(self):
        self.assertIs(is_yard(full_yard()), True)
        self.assertIs(is_yard((0, (), (), (), ())), False)


TALK = (
    "stuff wood 3;stuff a 2", "work ox 2r+a*1/3", "work wall 1+wood*2;shut 1", "tie 1 ox wall -1", "keep", "begun wall 4", "undo",
    "wait ox 2", "shut 99", "cut 1;cut 1", "what",
)


class Apart(unittest.TestCase):
    """Objects made apart have nothing to do with one another, and what stands alike tells alike."""

    def test_desks_and_books(self):
        first, second, third = Desk(), Desk(), Desk(book=Book())
        for line in TALK:
            answer = first.say(line)
            self.assertEqual((second.book(), second.book().steps()), (Book(), []))
            self.assertEqual(third.say(line), answer)
            self.assertEqual(first.book(), third.book())
        for line in ("plan", "end", "moves", "kept", "works", "stuffs", "ties", "shut"):
            self.assertEqual(first.say(line), third.say(line))
        other = read_page(page(first.book()))
        self.assertEqual((other.sooner(), other.fewer()), (first.book().sooner(), first.book().fewer()))
        self.assertEqual(second.book(), Book())

    def test_as_the_functions_tell(self):
        desk = Desk()
        for line in TALK:
            desk.say(line)
        book = desk.book()
        kept = tuple([row[1:] for row in book.kept()])
        end, plan, log = soonest(book.yard())
        self.assertEqual((book.end(), book.sooner()), (end, log))
        many, plan, log = fewest(book.yard(), kept)
        self.assertEqual((len(book.moves()), [row[1:] for row in book.plan()], book.fewer()), (many, plan, log))

    def test_numbers_of_many_figures(self):
        book = Book()
        book.all_or_none([("stuff", "wood", 1), ("work", "ox", ((1, 0, ()),)), ("work", "a", ((1, 0, ()),))])
        before = (book.twin(), book.steps())
        for far in BEYOND:
            for deed, name in (
                (("stuff", "new", far), "BadMany"), (("stock", "wood", far, far), "BadDay"), (("stock", "wood", 0, far), "BadMany"),
                (("work", "new", ((far, far, ()),)), "BadWays"), (("work", "new", ((1, 0, (("wood", far),)),)), "BadWays"),
                (("tie", far, "ox", "a", far), "BadGap"), (("cut", far), "NoTie"), (("shut", far), "BadDay"),
                (("unshut", far), "BadDay"), (("wait", "ox", far), "BadDay"), (("begun", "ox", far), "BadDay"),
            ):
                self.assertEqual(told(book.do, deed)[0], name)
            self.assertEqual(told(Book, days=far)[0], "BadDay")
            self.assertEqual(told(read_page, f"days {far}\n")[0], "BadText")
            self.assertEqual(told(read_deed, f"cut {far}")[0], "BadText")
            self.assertEqual(Desk(book=book).say(f"cut {far}"), "what")
        self.assertEqual((book, book.steps()), before)

    def test_texts_tell_alike(self):
        for text in ("work ox 3r+stone*1+wood*2/2", "tie 1 ox wall -20", "keep"):
            self.assertEqual(read_deed(text), read_deed(text))
            self.assertEqual(deed_text(read_deed(text)), text)


class Outside(unittest.TestCase):
    def test_nothing_but_the_package_is_imported(self):
        for path in PACKAGE.glob("*.py"):
            for node in ast.walk(ast.parse(path.read_text())):
                self.assertNotIsInstance(node, ast.Import, path.name)
                if isinstance(node, ast.ImportFrom):
                    self.assertTrue(node.module.startswith("hodman."), path.name)


if __name__ == "__main__":
    unittest.main()
