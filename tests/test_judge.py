"""[13], [14] and the interface of hodman/judge.py."""

import copy
import inspect
import itertools
import random
import unittest

import hodman.judge as judge_module
from hodman.judge import first_bad, lines_of, needed, shows
from hodman.rules import bears
from hodman.search import search
from hodman.yards import make_tie, make_way, make_work, make_yard
from tests.helper import AGAINST, BEYOND, FAR, chance_ask, chance_reason, plain_first_bad, plain_holds, plain_led
from tests.helper import plain_line, plain_plans, small_yard, told

ASK = "bound=None, kept=(), most=None"
# Six days; the one has three ways, the other one; the other begins behind the end of the one.
WORKS = [make_work([make_way(2), make_way(3), make_way(4)], low=1, high=5), make_work([make_way(1)], high=6)]
YARD = make_yard(WORKS, days=6, ties=[make_tie(0, 1)])
KEPT = ((2, 0), None)
# The one is kept, from day 2 on; if it stays, it begins from day 2 on; and then the other begins from day 4 on.
A = ((("from", 0, 2), ("moves", 0, 0)), ("kept", 0, 0))
B = ((("stays", 0, 0),), ("few", 0))
C = ((("ahead", 0, 2), ("from", 1, 4)), ("tie", 0, 2, 4))
LATE = (("from", 1, 4),)
STAYS = {"kept": KEPT, "most": 0}
CALLS = (first_bad, shows, lines_of)


def led(line, *numbers):
    return (line, ("led", *numbers))


class Arguments(unittest.TestCase):
    def test_as_told(self):
        want = {
            "first_bad": f"(yard, log, *, {ASK})",
            "shows": f"(yard, log, *, {ASK})",
            "lines_of": f"(yard, log, *, {ASK})",
            "needed": "(log)",
        }
        self.assertEqual({name: str(inspect.signature(getattr(judge_module, name))) for name in want}, want)

    def test_by_name(self):
        for call, want in ((first_bad, None), (shows, False), (lines_of, [A[0]])):
            self.assertEqual(call(log=[A], yard=YARD, most=0, kept=KEPT, bound=None), want)
        self.assertEqual(needed(log=[A]), [A])


class Case(unittest.TestCase):
    def right(self, *rows, yard=YARD, **ask):
        self.assertIsNone(first_bad(yard, list(rows), **(ask or STAYS)), rows)
        self.assertEqual(lines_of(yard, list(rows), **(ask or STAYS)), [row[0] for row in rows])

    def wrong(self, at, *rows, yard=YARD, **ask):
        self.assertEqual(first_bad(yard, list(rows), **(ask or STAYS)), at, rows)
        self.assertIs(shows(yard, list(rows), **(ask or STAYS)), False)
        want = ("BadLog", {"row": at, "word": "badlog"})
        self.assertEqual(told(lines_of, yard, list(rows), **(ask or STAYS)), want)


class Rows(Case):
    def test_just_the_line_that_the_reason_bears(self):
        self.right(A, B, C)
        for line in (
            (), A[0][:1], A[0][1:], A[0][::-1], (*A[0], ("way", 0, 0)), A[0] + A[0], list(A[0]),
            (("from", 0, 1), ("moves", 0, 0)), (("from", 1, 2), ("moves", 0, 0)), B[0],
        ):
            self.wrong(1, B, (line, A[1]), C)

    def test_by_the_ask_at_hand(self):
        self.wrong(0, A, kept=((3, 0), None))
        self.wrong(0, A, kept=())
        self.wrong(1, A, B, kept=KEPT)
        self.wrong(1, A, B, kept=KEPT, most=1)
        alone = (bears(YARD, ("alone", 0, 1), bound=4), ("alone", 0, 1))
        self.right(alone, bound=4)
        self.wrong(0, alone, bound=3)
        self.wrong(0, alone, bound=None, most=None)

    def test_reasons_that_bear_none(self):
        for reason in ((), ("",), ("leads", 0), ("alone",), ("alone", 9, 9), ("few",), ("kept", 1, 0), ("tie", 1, 0, 0)):
            for line in ((), A[0]):
                self.wrong(1, A, (line, reason))

    def test_the_first_that_is_not_right(self):
        bad = ((), ("alone", 0, 0))
        for at in range(4):
            rows = [A, B, C, led(LATE, 1, 0, 2)]
            rows[at] = bad
            self.wrong(at, *rows, bad)


class Led(Case):
    def test_orders(self):
        for numbers in itertools.permutations((0, 1, 2)):
            # Pressed first, the first row leaves two sayings open and turns nothing.
            if numbers[0] == 0:
                self.wrong(3, A, B, C, led(LATE, *numbers))
            else:
                self.right(A, B, C, led(LATE, *numbers))

    def test_more_than_once(self):
        self.right(A, B, C, led(LATE, 0, 1, 2, 0))
        self.right(A, B, C, led(LATE, 0, 0, 1, 1, 0, 2, 2))
        self.right(A, B, C, led(LATE, 1, 0, 2, 1, 1))

    def test_too_few_rows(self):
        for numbers in ((), (0,), (1,), (2,), (1, 0), (1, 2), (0, 2), (2, 0)):
            self.wrong(3, A, B, C, led(LATE, *numbers))

    def test_rows_that_are_not_ahead(self):
        for number in (3, 4, 5, -1, -2, -3, *BEYOND):
            self.wrong(3, A, B, C, led(LATE, 1, 0, 2, number), C, C)
            self.wrong(3, A, B, C, led(LATE, number, 1, 0, 2), C, C)
        self.wrong(0, led((), 0), A)
        self.wrong(0, led((("from", 0, 1),), 0), A)
        self.wrong(0, led((("from", 0, 1),), 1), A)

    def test_rows_through_others(self):
        self.right(A, B, led((("from", 0, 2),), 1, 0), C, led(LATE, 2, 3))
        self.right(A, B, C, led((("from", 0, 2),), 1, 0), led(LATE, 3, 2), led(LATE, 4))

    def test_other_lines_that_follow(self):
        for line in ((("from", 0, 1), *LATE), (*LATE, ("way", 0, 1)), (("from", 1, 3),), (("ahead", 0, 5), *LATE)):
            self.right(A, B, C, led(line, 1, 0, 2))
        for line in ((("from", 1, 5),), (("ahead", 1, 5),), (), (("way", 0, 0),)):
            self.wrong(3, A, B, C, led(line, 1, 0, 2))

    def test_what_is_no_line(self):
        for line in (
            (*LATE, *LATE), (*LATE, ("from", 0, 2)), (("from", 1, 4), ("from", 1, 3)), (("from", 1, 7), *LATE),
            (("from", 1, -1), *LATE), (("from", 2, 0),), (("ahead", 1, 9), *LATE), (*LATE, ("way", 0, 3)),
            (("behind", 0, 0), *LATE), (*LATE, ("moves", 0, 1)), (("from", 0), *LATE), (("from", FAR, FAR), *LATE),
            list(LATE),
        ):
            self.wrong(3, A, B, C, led(line, 1, 0, 2))

    def test_what_is_known_at_first(self):
        """A row that tells no rows is right where its line's opposites alone lead to nothing."""
        for line in (
            (("from", 0, 0),), (("from", 0, 1),), (("ahead", 0, 5),), (("ahead", 0, 6),), (("from", 1, 0),),
            (("ahead", 1, 6),), (("way", 1, 0),), (("moves", 1, 0),), (("ahead", 0, 3), ("from", 0, 3)),
            (("ahead", 0, 4), ("from", 0, 2)), (("not", 0, 0), ("way", 0, 0)), (("moves", 0, 0), ("stays", 0, 0)),
            (("way", 0, 0), ("way", 0, 1), ("way", 0, 2)), (("not", 0, 0), ("not", 0, 1)),
        ):
            self.right(A, led(line), kept=KEPT)
            self.right(A, led(line, 0), kept=KEPT)
        for line in (
            (), (("from", 0, 2),), (("ahead", 0, 4),), (("from", 1, 1),), (("ahead", 1, 5),), (("not", 1, 0),),
            (("stays", 1, 0),), (("stays", 0, 0),), (("moves", 0, 0),), (("way", 0, 0), ("way", 0, 1)),
            (("not", 0, 0), ("way", 0, 1)), (("ahead", 0, 2), ("from", 0, 3)),
        ):
            self.wrong(1, A, led(line), kept=KEPT)
            self.wrong(1, A, led(line, 0), kept=KEPT)
        self.right(A, led((("moves", 0, 0), ("way", 1, 0))), kept=KEPT)

    def test_lines_of_which_a_saying_is_known_to_hold_turn_nothing(self):
        # Of the row's line "from 2" is known, so that "moves" is not taken.
        self.wrong(2, A, C, led((("ahead", 0, 2), ("stays", 0, 0)), 0), kept=KEPT)
        self.right(A, C, led((("from", 0, 2), ("moves", 0, 0)), 0), kept=KEPT)
        self.wrong(2, A, C, led((("ahead", 0, 2), ("moves", 0, 0)), 0), kept=KEPT)

    def test_ways(self):
        # From day 3 on it ends on day 5, 6 or not at all.
        tie = (bears(YARD, ("tie", 0, 3, 6)), ("tie", 0, 3, 6))
        self.assertEqual(tie[0], (("ahead", 0, 3), ("from", 1, 6), ("way", 0, 0)))
        self.right(tie, led((("ahead", 0, 3), ("way", 0, 0)), 0), bound=6)
        self.right(tie, led((("ahead", 0, 3), ("not", 0, 1)), 0), bound=6)
        self.wrong(1, tie, led((("ahead", 0, 3), ("not", 0, 0)), 0), bound=6)
        self.wrong(1, tie, led((("ahead", 0, 3), ("way", 0, 1)), 0), bound=6)
        self.right(tie, led((("ahead", 0, 3), ("way", 0, 0), ("way", 0, 1)), 0), bound=6)


class Shows(Case):
    def test_no_rows(self):
        for yard in (YARD, make_yard([])):
            self.assertIsNone(first_bad(yard, []))
            self.assertIs(shows(yard, []), False)
            self.assertEqual(lines_of(yard, []), [])
        self.assertEqual(needed([]), [])

    def test_the_last_line_must_be_empty(self):
        # It is kept on a day on which it can't end by the bound.
        ask = {"bound": 3, "kept": ((2, 0), None), "most": 0}
        last = (bears(YARD, ("kept", 0, 1), **ask), ("kept", 0, 1))
        alone = (bears(YARD, ("alone", 0, 2), **ask), ("alone", 0, 2))
        log = [A, B, last, alone, led((), 1, 0, 2, 3)]
        self.assertIs(shows(YARD, log, **ask), True)
        self.assertIs(shows(YARD, [*log, log[-1]], **ask), True)
        self.assertIs(shows(YARD, [*log, led((), 4)], **ask), True)
        self.assertIs(shows(YARD, [*log, alone], **ask), False)
        self.assertIs(shows(YARD, log[:-1], **ask), False)
        self.assertIs(shows(YARD, log[1:], **ask), False)
        self.assertIs(shows(YARD, [A, ((), ("led",)), *log], **ask), False)
        self.assertIs(shows(YARD, log, **{**ask, "bound": 4}), False)
        self.assertIs(shows(YARD, log, **{**ask, "most": 1}), False)

    def test_all_rows_must_be_right(self):
        ask = {"bound": 3, "kept": ((2, 0), None), "most": 0}
        log = search(YARD, **ask)[1]
        self.assertIs(shows(YARD, log, **ask), True)
        bad = ((), ("led",))
        for at in range(len(log)):
            self.assertIs(shows(YARD, [*log[:at], bad, *log[at + 1:]], **ask), False)

    def test_the_empty_line_by_no_reason_but_led(self):
        for reason in (("alone", 0, 0), ("stretch", 0, 0, 1, ()), ("few",), ("led",), ()):
            self.assertIs(shows(YARD, [((), reason)], kept=KEPT, most=0), False)


class Needed(unittest.TestCase):
    def test_drops_and_renumbers(self):
        log = [A, C, B, led((("from", 0, 2),), 2, 0), A, C, led((("from", 0, 1),), 3), led(LATE, 3, 1, 3)]
        want = [A, C, B, led((("from", 0, 2),), 2, 0), led(LATE, 3, 1, 3)]
        self.assertEqual(needed(log), want)
        log = [C, A, A, B, C, led((("from", 0, 2),), 3, 2), led(LATE, 5, 4)]
        self.assertEqual(needed(log), [A, B, C, led((("from", 0, 2),), 1, 0), led(LATE, 3, 2)])

    def test_the_last_row_alone(self):
        self.assertEqual(needed([A, B, C]), [C])
        self.assertEqual(needed([A]), [A])
        self.assertEqual(needed([A, led(LATE)]), [led(LATE)])
        self.assertEqual(needed([A, ((), ())]), [((), ())])

    def test_nothing_to_drop(self):
        log = [A, B, C, led(LATE, 1, 0, 2)]
        self.assertEqual(needed(log), log)
        self.assertIsNot(needed(log), log)

    def test_order_and_doubles_of_the_numbers(self):
        log = [A, A, B, C, led(LATE, 3, 1, 1, 3, 2)]
        self.assertEqual(needed(log), [A, B, C, led(LATE, 2, 0, 0, 2, 1)])

    def test_through_many(self):
        log = [A, B]
        for at in range(1, 60):
            log += [B, led((), 2 * at - 1)]
        self.assertEqual(needed(log), [B, *[led((), at) for at in range(59)]])

    def test_lines_are_not_looked_at(self):
        log = [("x", ("alone", FAR, FAR)), (("y",), ("tie",)), ("z", ("led", 0))]
        self.assertEqual(needed(log), [log[0], ("z", ("led", 0))])

    def test_the_log_stays(self):
        log = [C, A, B, led(LATE, 2, 1)]
        before = copy.deepcopy(log)
        out = needed(log)
        out.clear()
        self.assertEqual(log, before)
        self.assertEqual(len(needed(log)), 3)

    def test_what_was_right_stays_right(self):
        ask = {"bound": 3, "kept": ((2, 0), None), "most": 0}
        log = search(YARD, **ask)[1]
        tie = (bears(YARD, ("tie", 0, 2, 4)), ("tie", 0, 2, 4))
        moved_on = [(line, ("led", *[at + 1 for at in reason[1:]]) if reason[0] == "led" else reason)
                    for line, reason in log]
        self.assertIs(shows(YARD, [tie, *moved_on], **ask), True)
        self.assertEqual(needed([tie, *moved_on]), log)


class Refusals(unittest.TestCase):
    def test_in_their_order_and_ahead_of_bad_log(self):
        good = {"yard": YARD, "bound": 6, "kept": KEPT, "most": 2}
        bad = {"yard": (21, *YARD[1:]), "bound": 7, "kept": ((0, 3), None), "most": 3}
        names = ("BadYard", "BadBound", "BadKept", "BadMost")
        for wrong in itertools.product((False, True), repeat=4):
            given = {key: (bad if is_bad else good)[key] for key, is_bad in zip(good, wrong)}
            due = [name for name, is_bad in zip(names, wrong) if is_bad]
            yard = given.pop("yard")
            for log, last in (([], None), ([((), ())], "BadLog")):
                for call in CALLS:
                    got = told(call, yard, log, **given)
                    want = due[0] if due else last if call == lines_of else None
                    self.assertEqual(got and got[0], want)

    def test_their_fields(self):
        for call in CALLS:
            for far in (-1, 7, *BEYOND):
                want = ("BadBound", {"bound": far, "word": "badbound"})
                self.assertEqual(told(call, YARD, [], bound=far), want)
            for far in (-1, 3, *BEYOND):
                want = ("BadMost", {"most": far, "word": "badmost"})
                self.assertEqual(told(call, YARD, [], most=far), want)
            want = ("BadKept", {"at": 1, "word": "badkept"})
            self.assertEqual(told(call, YARD, [], kept=((0, 0), (0, 1))), want)
            self.assertEqual(told(call, YARD, [], kept=((0, 0),)), want)


def chance_line(chance, yard):
    """A line by chance, of few sayings."""
    every = []
    for work, (_, _, ways) in enumerate(yard[3]):
        every += [(word, work, day) for word in ("from", "ahead") for day in range(yard[0] + 1)]
        every += [(word, work, way) for word in ("way", "not") for way in range(len(ways))]
        every += [("stays", work, 0), ("moves", work, 0)]
    return tuple(sorted(set(chance.choices(every, k=chance.choice((1, 1, 2, 3)))))) if every else ()


def chance_log(chance, yard, ask):
    """A log by chance of which all rows are right by the plain telling; half of them led."""
    log = []
    for _ in range(60):
        reason = chance_reason(chance, yard, ask)
        line = plain_line(yard, reason, **ask)
        if line is not None:
            log.append((line, reason))
        if log:
            numbers = chance.choices(range(len(log)), k=min(len(log), 8))
            line = chance_line(chance, yard)
            if line and plain_led(yard, ask["kept"], [row[0] for row in log], line, numbers):
                log.append((line, ("led", *numbers)))
    return log


def spoilt(chance, yard, log):
    """The log with one thing turned, which may still be right."""
    at = chance.randrange(len(log))
    line, reason = log[at]
    turn = chance.randrange(5)
    if turn == 0 and line:
        gone = chance.randrange(len(line))
        line = line[:gone] + line[gone + 1:]
    elif turn == 1:
        line = tuple(sorted({*line, *chance_line(chance, yard)}))
    elif turn == 2 and len(reason) > 1:
        gone = chance.randrange(1, len(reason))
        reason = reason[:gone] + reason[gone + 1:]
    elif turn == 3 and reason[0] == "led":
        reason = ("led", *chance.sample(reason[1:], len(reason) - 1))
    elif line:
        word, work, number = line[0]
        line = tuple(sorted({(AGAINST[word], work, number), *line[1:]}))
    return [*log[:at], (line, reason), *log[at + 1:]]


class Chance(unittest.TestCase):
    def test_against_a_plain_telling(self):
        seen = {}
        for seed in range(250):
            yard, chance = small_yard(seed), random.Random(seed)
            ask = chance_ask(chance, yard)
            log = chance_log(chance, yard, ask)
            self.assertEqual(lines_of(yard, log, **ask), [row[0] for row in log])
            for _ in range(12 if log else 0):
                other = spoilt(chance, yard, log)
                want = plain_first_bad(yard, other, **ask)
                self.assertEqual(first_bad(yard, other, **ask), want, (yard, ask, other))
                seen[want is None] = seen.get(want is None, 0) + 1
        self.assertGreater(min(seen[True], seen[False]), 200, seen)

    def test_lines_hold_of_all_plans_of_the_ask(self):
        checked = 0
        for seed in range(250):
            yard, chance = small_yard(seed), random.Random(seed)
            ask = chance_ask(chance, yard)
            log = chance_log(chance, yard, ask)
            plans = plain_plans(yard, **ask)
            for line in lines_of(yard, log, **ask):
                for plan in plans:
                    good = [saying for saying in line if plain_holds(plan, ask["kept"], saying)]
                    self.assertTrue(good, (yard, ask, line, plan))
            checked += len(plans) * len([row for row in log if row[1][0] == "led"])
        self.assertGreater(checked, 2000)

    def test_search_logs_with_one_thing_turned(self):
        seen = {}
        for seed in range(700):
            yard, chance = small_yard(seed), random.Random(seed)
            ask = chance_ask(chance, yard)
            plan, log = search(yard, **ask)
            for _ in range(0 if log is None else 6):
                other = spoilt(chance, yard, log)
                want = plain_first_bad(yard, other, **ask)
                self.assertEqual(first_bad(yard, other, **ask), want, (yard, ask, other))
                self.assertIs(shows(yard, other, **ask), want is None and other[-1][0] == ())
                seen[want is None] = seen.get(want is None, 0) + 1
        self.assertGreater(min(seen[True], seen[False]), 100, seen)


class Asking(unittest.TestCase):
    def test_what_is_handed_in_stays(self):
        log = [A, B, C, led(LATE, 1, 0, 2)]
        before = copy.deepcopy(log)
        for call in CALLS:
            call(YARD, log, **STAYS)
            told(call, YARD, log)
            self.assertEqual(log, before)

    def test_told_lists_are_new(self):
        log = [A, B, C]
        out = lines_of(YARD, log, **STAYS)
        self.assertIs(type(out), list)
        out.clear()
        self.assertEqual(lines_of(YARD, log, **STAYS), [A[0], B[0], C[0]])
        self.assertEqual(log, [A, B, C])


if __name__ == "__main__":
    unittest.main()
