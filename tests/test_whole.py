"""[1], what holds of the whole program, as far as its modules go."""

import ast
import copy
import itertools
import pathlib
import random
import unittest

from hodman.days import finish, holding, working
from hodman.judge import first_bad, lines_of, needed, shows
from hodman.plans import broken, end_of, moved, table
from hodman.rules import bears
from hodman.sayings import holds, line, opposite
from hodman.search import search
from hodman.yards import is_yard, make_yard
from tests.helper import BEYOND, FAR, chance_ask, chance_reason, chance_yard, full_yard, refusal, small_yard, told

PACKAGE = pathlib.Path(__file__).resolve().parent.parent / "hodman"


class Order(unittest.TestCase):
    """Of several refusals that are due the one told first goes."""

    def test_arguments_in_their_order_those_by_name_behind(self):
        yard = full_yard()
        bad_yard = (21, *yard[1:])
        for wrong in itertools.product((False, True), repeat=5):
            for far in BEYOND:
                given = [bad_yard if wrong[0] else yard]
                given += [far if bad else 0 for bad in wrong[1:]]
                names = [name for name, bad in zip(("BadYard", "BadWork", "BadWay", "BadDay", "BadStuff"), wrong) if bad]
                self.check(holding, given, {}, names)
                if not wrong[4]:
                    self.check(working, given[:4], {}, names)
                    self.check(finish, given[:3], {"day": given[3]}, names)

    def check(self, call, given, named, names):
        error = refusal(call, *given, **named)
        self.assertEqual(error and error.__class__.__name__, names[0] if names else None)

    def test_the_yard_ahead_of_the_plan(self):
        for call in (broken, end_of, table):
            self.assertEqual(told(call, (0, (), (), (), ()), [(FAR, FAR)])[0], "BadYard")
            self.assertEqual(told(call, (1, (), (), (), ()), [(FAR, FAR)])[0], "BadPlan")

    def test_the_yard_ahead_of_all_else(self):
        ask = {"bound": FAR, "kept": ((FAR, FAR),), "most": FAR}
        good = (1, (), (), (), ())
        for part, at, yard in (
            ("days", 0, (21, (), (), (), ())), ("shut", 0, (1, (1,), (), (), ())), ("stuffs", 0, (1, (), ((),), (), ())),
            ("works", 0, (1, (), (), ((0, 2, ()),), ())), ("ties", 0, (1, (), (), (), ((0, 0, 1, 0),))),
        ):
            want = ("BadYard", {"part": part, "at": at, "word": "badyard"})
            self.assertEqual(told(opposite, yard, ("", FAR, FAR)), want)
            self.assertEqual(told(line, yard, [("", FAR, FAR)]), want)
            self.assertEqual(told(holds, yard, [(FAR, FAR)], [("", FAR, FAR)]), want)
            self.assertEqual(told(bears, yard, (), **ask), want)
            for call in (first_bad, shows, lines_of):
                self.assertEqual(told(call, yard, [((), ())], **ask), want)
            self.assertEqual(told(search, yard, **ask), want)
        self.assertEqual(told(search, good, **ask)[0], "BadBound")


class Asking(unittest.TestCase):
    def answers(self, yard):
        out = [is_yard(yard)]
        plan = [(low, 0) for low, _, _ in yard[3]]
        for call in (broken, end_of, table):
            error = told(call, yard, plan)
            out.append(call(yard, plan) if error is None else error)
        out.append(moved(plan, tuple([(0, 0)] * len(plan))))
        for work in range(len(yard[3])):
            for day in range(yard[0]):
                out += [working(yard, work, 0, day), finish(yard, work, 0, day=day)]
                out += [holding(yard, work, 0, day, stuff, first=1) for stuff in range(len(yard[2]))]
        return out

    def lines(self, yard, seed):
        """What is told of an ask, and of the same reasons and log for the same seed."""
        chance = random.Random(seed)
        ask = chance_ask(chance, yard)
        out = []
        log = search(yard, **ask)[1] or []
        for reason in [chance_reason(chance, yard, ask) for _ in range(5)]:
            if told(bears, yard, reason, **ask) is None:
                log = [(bears(yard, reason, **ask), reason)]
                out.append(list(log[0][0]))
        out += [search(yard, **ask), needed(log), shows(yard, log, **ask), first_bad(yard, log, **ask)]
        out.append(told(lines_of, yard, log, **ask) or lines_of(yard, log, **ask))
        return out

    def test_lines_and_logs_tell_alike(self):
        for seed in range(60):
            yard = small_yard(seed)
            first = self.lines(yard, seed)
            for thing in self.lines(yard, seed):
                if isinstance(thing, list):
                    thing.append(77)
            self.assertEqual(self.lines(copy.deepcopy(yard), seed), first)

    def test_changes_nothing_and_tells_alike(self):
        for seed in range(60):
            yard = chance_yard(seed)
            before = copy.deepcopy(yard)
            first = self.answers(yard)
            self.assertEqual(self.answers(yard), first)
            self.assertEqual(self.answers(before), first)
            self.assertEqual(yard, before)

    def test_a_told_list_that_is_changed_changes_nothing_later(self):
        for seed in range(30):
            yard = chance_yard(seed)
            first = self.answers(yard)
            for thing in self.answers(yard):
                if isinstance(thing, list):
                    for part in thing:
                        if isinstance(part, list):
                            part.append(77)
                    thing.append(77)
            self.assertEqual(self.answers(yard), first)

    def test_what_is_refused_changes_nothing(self):
        yard = full_yard()
        first = self.answers(yard)
        for far in BEYOND:
            self.assertEqual(told(working, yard, 0, 0, far)[0], "BadDay")
            self.assertEqual(told(end_of, yard, [(far, far)] * 6)[0], "BadPlan")
            works = [(far, far, ())]
            self.assertEqual(told(make_yard, works)[0], "BadYard")
            self.assertEqual(works, [(far, far, ())])
        self.assertEqual(self.answers(yard), first)

    def test_truths_are_true_and_false(self):
        self.assertIs(is_yard(full_yard()), True)
        self.assertIs(is_yard((0, (), (), (), ())), False)


class Outside(unittest.TestCase):
    def test_nothing_but_the_package_is_imported(self):
        for path in PACKAGE.glob("*.py"):
            for node in ast.walk(ast.parse(path.read_text())):
                self.assertNotIsInstance(node, ast.Import, path.name)
                if isinstance(node, ast.ImportFrom):
                    self.assertTrue(node.module.startswith("hodman."), path.name)


if __name__ == "__main__":
    unittest.main()
