"""[11], [12] and the interface of hodman/rules.py."""

import inspect
import itertools
import random
import unittest

from hodman.rules import bears
from hodman.yards import END, START, make_tie, make_way, make_work, make_yard
from tests.helper import BEYOND, FAR, chance_ask, chance_reason, chance_yard, full_yard, plain_holds, plain_line
from tests.helper import plain_plans, small_yard, told

# Six days, day 2 is shut; the first way of the first work rests on it.
DIG = make_work([make_way(2, rests=1, needs=[2]), make_way(3, needs=[1])], low=1, high=5)
WALL = make_work([make_way(1, needs=[3])], high=6)
STUFF = [3, 3, 0, 3, 1, 3]


def yard_of(*ties):
    return make_yard([DIG, WALL], days=6, shut=[2], stuffs=[STUFF], ties=ties)


YARD = yard_of(make_tie(0, 1))
NO_LINE = ("NoLine", {"word": "noline"})


def lined(*sayings):
    return tuple(sorted(sayings))


class Arguments(unittest.TestCase):
    def test_as_told(self):
        self.assertEqual(str(inspect.signature(bears)), "(yard, reason, *, bound=None, kept=(), most=None)")

    def test_by_name(self):
        want = (("ahead", 1, 0), ("from", 1, 1), ("way", 1, 0))
        self.assertEqual(bears(reason=("alone", 1, 0), yard=YARD, most=None, kept=(), bound=None), want)


class Case(unittest.TestCase):
    def check(self, yard, reason, *sayings, **ask):
        self.assertEqual(bears(yard, reason, **ask), lined(*sayings), reason)

    def none(self, yard, reason, **ask):
        self.assertEqual(told(bears, yard, reason, **ask), NO_LINE, reason)


class Alone(Case):
    def alone(self, day, *ways, **ask):
        sayings = [("ahead", 0, day), ("from", 0, day + 1), *[("way", 0, way) for way in ways]]
        self.check(YARD, ("alone", 0, day), *sayings, **ask)

    def test_what_there_is_and_shut_days(self):
        self.alone(0, 0)
        self.alone(1, 0)
        self.alone(2)
        self.alone(3, 1)
        self.alone(4)
        self.alone(5)

    def test_all_that_there_is_may_be_held(self):
        for many, ways in ((2, (0,)), (1, ()), (9, (0,))):
            yard = make_yard([make_work([make_way(2, needs=[2])], high=2)], days=2, stuffs=[[9, many]])
            self.check(yard, ("alone", 0, 0), ("ahead", 0, 0), ("from", 0, 1), *[("way", 0, way) for way in ways])

    def test_of_each_stuff(self):
        for rows, ways in (([[1], [1]], (0,)), ([[1], [0]], ()), ([[0], [1]], ()), ([[2], [2]], (0, 1))):
            work = make_work([make_way(1, needs=[1, 1]), make_way(1, needs=[2, 2])], high=1)
            yard = make_yard([work], days=1, stuffs=rows)
            self.check(yard, ("alone", 0, 0), ("ahead", 0, 0), ("from", 0, 1), *[("way", 0, way) for way in ways])

    def test_bound(self):
        self.alone(1, 0, bound=4)
        self.alone(1, bound=3)
        self.alone(0, 0, bound=2)
        self.alone(0, bound=1)
        self.alone(0, bound=0)
        self.alone(3, 1, bound=6)
        self.alone(3, 1, bound=None)
        self.alone(3, bound=5)

    def test_the_other_works_and_ties_are_not_looked_at(self):
        self.check(YARD, ("alone", 1, 5), ("ahead", 1, 5), ("from", 1, 6), ("way", 1, 0))
        self.check(YARD, ("alone", 1, 0), ("ahead", 1, 0), ("from", 1, 1), ("way", 1, 0))

    def test_no_work_or_day(self):
        for work in (-1, -2, 2, *BEYOND):
            self.none(YARD, ("alone", work, 0))
        for day in (-1, 6, 7, *BEYOND):
            self.none(YARD, ("alone", 0, day))
        self.none(make_yard([]), ("alone", 0, 0))

    def test_another_count(self):
        for reason in (("alone",), ("alone", 0), ("alone", 0, 0, 0)):
            self.none(YARD, reason)


class Tie(Case):
    def tie(self, tie, day, till, *ways):
        sayings = [("ahead", 0, day), ("from", 1, till), *[("way", 0, way) for way in ways]]
        self.check(yard_of(tie), ("tie", 0, day, till), *sayings)

    def test_end(self):
        # The least ends from days 1, 2, 3, 4, 5 on: 4, 5, 5, 6, none; and 4, 5, 6, none, none.
        for day, ends in ((0, (2, 3)), (1, (4, 4)), (2, (5, 5)), (3, (5, 6)), (4, (6, None)), (5, (None, None))):
            for till in range(7):
                for gap in (-20, -2, -1, 0, 1, 2, 20):
                    ways = [way for way, end in enumerate(ends) if end is not None and end + gap < till]
                    self.tie(make_tie(0, 1, gap=gap), day, till, *ways)

    def test_start(self):
        for day in range(6):
            for till in range(7):
                for gap in (-20, -2, -1, 0, 1, 2, 20):
                    ways = (0, 1) if day + gap < till else ()
                    self.tie(make_tie(0, 1, kind=START, gap=gap), day, till, *ways)

    def test_edges_of_till(self):
        self.tie(make_tie(0, 1), 1, 0)
        self.tie(make_tie(0, 1), 1, 4)
        self.tie(make_tie(0, 1), 1, 5, 0, 1)
        self.tie(make_tie(0, 1), 1, 6, 0, 1)
        self.tie(make_tie(0, 1, kind=START), 5, 5)
        self.tie(make_tie(0, 1, kind=START), 5, 6, 0, 1)

    def test_its_own_works(self):
        yard = yard_of(make_tie(0, 1), make_tie(1, 0, gap=1), make_tie(1, 0, kind=START))
        self.check(yard, ("tie", 1, 2, 4), ("ahead", 1, 2), ("from", 0, 4))
        self.check(yard, ("tie", 1, 2, 5), ("ahead", 1, 2), ("from", 0, 5), ("way", 1, 0))
        self.check(yard, ("tie", 2, 2, 2), ("ahead", 1, 2), ("from", 0, 2))

    def test_bound_and_own_bounds_are_not_looked_at(self):
        for bound in (0, 3, 6, None):
            self.check(YARD, ("tie", 0, 5, 6), ("ahead", 0, 5), ("from", 1, 6), bound=bound)
            self.check(YARD, ("tie", 0, 3, 6), ("ahead", 0, 3), ("from", 1, 6), ("way", 0, 0), bound=bound)

    def test_no_tie_day_or_till(self):
        for tie in (-1, 1, *BEYOND):
            self.none(YARD, ("tie", tie, 0, 0))
        for day in (-1, 6, *BEYOND):
            self.none(YARD, ("tie", 0, day, 0))
        for till in (-1, 7, *BEYOND):
            self.none(YARD, ("tie", 0, 0, till))
        self.none(yard_of(), ("tie", 0, 0, 0))

    def test_another_count(self):
        for reason in (("tie",), ("tie", 0), ("tie", 0, 0), ("tie", 0, 0, 0, 0)):
            self.none(YARD, reason)


class Stretch(Case):
    BOTH = ((0, 0, 1, (0,)), (1, 0, 1, (0,)))

    def test_one_day(self):
        want = (("ahead", 0, 0), ("from", 0, 1), ("way", 0, 1), ("ahead", 1, 0), ("from", 1, 1))
        self.check(YARD, ("stretch", 0, 0, 1, self.BOTH), *want)
        self.none(YARD, ("stretch", 0, 0, 1, self.BOTH[1:]))
        self.none(YARD, ("stretch", 0, 0, 1, self.BOTH[:1]))
        self.none(YARD, ("stretch", 0, 1, 2, self.BOTH))
        self.check(YARD, ("stretch", 0, 4, 5, ((1, 4, 5, (0,)),)), ("ahead", 1, 4), ("from", 1, 5))

    def test_just_what_there_is_is_not_too_much(self):
        work = make_work([make_way(2, needs=[2])], high=3)
        for many, bears_it in ((3, True), (4, False), (5, False)):
            yard = make_yard([work, work], days=4, stuffs=[[9, many, 9, 9]])
            rows = ((0, 0, 2, (0,)), (1, 0, 2, (0,)))
            sayings = [("ahead", 0, 0), ("from", 0, 2), ("ahead", 1, 0), ("from", 1, 2)]
            if bears_it:
                self.check(yard, ("stretch", 0, 1, 2, rows), *sayings)
            else:
                self.none(yard, ("stretch", 0, 1, 2, rows))

    def test_all_days(self):
        works = [make_work([make_way(4, needs=[4])], high=4)] * 3
        rows = tuple([(work, 0, 4, (0,)) for work in range(3)])
        yard = make_yard(works, days=8, stuffs=[[5, 6] * 4])
        sayings = [saying for work in range(3) for saying in (("ahead", work, 0), ("from", work, 4))]
        self.check(yard, ("stretch", 0, 0, 8, rows), *sayings)
        self.none(yard, ("stretch", 0, 0, 8, rows[:2]))
        self.none(make_yard(works, days=8, stuffs=[[6] * 8]), ("stretch", 0, 0, 8, rows))

    def test_the_least_over_days_and_ways(self):
        # On day 3: by way 0 from day 1 it holds 2, by way 1 from day 1 it holds 1, from day 4 nothing.
        poor = make_yard([DIG, WALL], days=6, shut=[2], stuffs=[[9, 9, 9, 1, 9, 9]])
        self.check(poor, ("stretch", 0, 3, 4, ((0, 1, 2, (0,)),)), ("ahead", 0, 1), ("from", 0, 2), ("way", 0, 1))
        self.none(poor, ("stretch", 0, 3, 4, ((0, 1, 2, (1,)),)))
        self.none(poor, ("stretch", 0, 3, 4, ((0, 1, 2, (0, 1)),)))
        self.none(poor, ("stretch", 0, 3, 4, ((0, 1, 5, (0,)),)))
        bare = make_yard([DIG, WALL], days=6, shut=[2], stuffs=[[9, 9, 9, 0, 9, 9]])
        self.check(bare, ("stretch", 0, 3, 4, ((0, 1, 4, (0, 1)),)), ("ahead", 0, 1), ("from", 0, 4))
        self.none(bare, ("stretch", 0, 3, 4, ((0, 1, 5, (0, 1)),)))
        self.none(bare, ("stretch", 0, 3, 4, ((0, 0, 4, (0, 1)),)))

    def test_days_on_which_it_cannot_begin_are_passed_by(self):
        # By way 0 it can't begin on day 2, by way 1 not on day 4, so these tell no least.
        bare = make_yard([DIG, WALL], days=6, shut=[2], stuffs=[[9, 9, 9, 9, 1, 9]])
        self.check(bare, ("stretch", 0, 4, 5, ((0, 2, 5, (0,)),)), ("ahead", 0, 2), ("from", 0, 5), ("way", 0, 1))
        self.none(bare, ("stretch", 0, 4, 5, ((0, 2, 5, (0, 1)),)))
        none = make_yard([DIG, WALL], days=6, shut=[2], stuffs=[[9, 9, 9, 0, 0, 9]])
        self.check(none, ("stretch", 0, 4, 5, ((0, 2, 6, (1,)),)), ("ahead", 0, 2), ("from", 0, 6), ("way", 0, 0))

    def test_one_that_cannot_begin_at_all(self):
        for row, *sayings in (
            ((0, 2, 3, (0,)), ("ahead", 0, 2), ("from", 0, 3), ("way", 0, 1)),
            ((0, 4, 6, (1,)), ("ahead", 0, 4), ("from", 0, 6), ("way", 0, 0)),
            ((0, 5, 6, (0, 1)), ("ahead", 0, 5), ("from", 0, 6)),
        ):
            for first, past in ((0, 6), (0, 1), (5, 6)):
                self.check(YARD, ("stretch", 0, first, past, (row,)), *sayings)
                more = (row, (1, 0, 6, (0,)))
                self.check(YARD, ("stretch", 0, first, past, more), *sayings, ("ahead", 1, 0), ("from", 1, 6))
        self.none(YARD, ("stretch", 0, 0, 6, ((0, 2, 3, (0, 1)),)))

    def test_the_bound_and_own_bounds_are_not_looked_at(self):
        for bound in (0, 1, 6):
            self.none(YARD, ("stretch", 0, 0, 1, self.BOTH[:1]), bound=bound)
            self.assertEqual(len(bears(YARD, ("stretch", 0, 0, 1, self.BOTH), bound=bound)), 5)

    def test_no_stuff_or_days(self):
        for stuff in (-1, 1, *BEYOND):
            self.none(YARD, ("stretch", stuff, 0, 1, self.BOTH))
        for first, past in ((-1, 1), (0, 0), (1, 0), (1, 1), (0, 7), (6, 7), (6, 6), (FAR, FAR), (-FAR, FAR), (0, FAR)):
            self.none(YARD, ("stretch", 0, first, past, ((0, 2, 3, (0,)),)))
        bare = make_yard([make_work([make_way(2, rests=1)], high=2)], days=2, shut=[0, 1])
        self.none(bare, ("stretch", 0, 0, 1, ((0, 0, 1, (0,)),)))

    def test_rows_that_are_none(self):
        dead = (0, 5, 6, (0, 1))
        self.check(YARD, ("stretch", 0, 0, 1, (dead,)), ("ahead", 0, 5), ("from", 0, 6))
        for rows in (
            (), (dead, dead), ((1, 0, 1, (0,)), dead), ((-1, 0, 1, (0,)), dead), (dead, (2, 0, 1, (0,))),
            (dead, (FAR, 0, 1, (0,))), ((-FAR, 0, 1, (0,)), dead), (dead, ()), (dead, (1, 0, 1)),
            (dead, (1, 0, 1, (0,), 0)), (dead, (1, -1, 1, (0,))), (dead, (1, 0, 0, (0,))), (dead, (1, 1, 0, (0,))),
            (dead, (1, 0, 7, (0,))), (dead, (1, 6, 7, (0,))), (dead, (1, 0, FAR, (0,))), (dead, (1, -FAR, 1, (0,))),
            (dead, (1, 0, 1, ())), (dead, (1, 0, 1, (1,))), (dead, (1, 0, 1, (-1,))), (dead, (1, 0, 1, (0, 0))),
            (dead, (1, 0, 1, (0, 1))), (dead, (1, 0, 1, (FAR,))), (dead, (1, 0, 1, (-FAR, 0))),
            ((0, 5, 6, (1, 0)),), ((0, 5, 6, (0, 0)),), ((0, 5, 6, (0, 1, 2)),), ((0, 5, 6, (-1, 0, 1)),),
            ((0, 5, 6, ()),), ((0, 5, 6, (1, 1)),),
        ):
            self.none(YARD, ("stretch", 0, 0, 1, rows))

    def test_another_count(self):
        for count in (0, 1, 2, 3):
            self.none(YARD, ("stretch", 0, 0, 1, self.BOTH)[:count + 1])
        self.none(YARD, ("stretch", 0, 0, 1, self.BOTH, 0))


class KeptAndFew(Case):
    KEPT = ((3, 1), None)

    def test_kept(self):
        self.check(YARD, ("kept", 0, 0), ("moves", 0, 0), ("from", 0, 3), kept=self.KEPT)
        self.check(YARD, ("kept", 0, 1), ("moves", 0, 0), ("ahead", 0, 4), kept=self.KEPT)
        self.check(YARD, ("kept", 0, 2), ("moves", 0, 0), ("way", 0, 1), kept=self.KEPT)
        stays = (("stays", 0, 0), ("ahead", 0, 3), ("from", 0, 4), ("not", 0, 1))
        self.check(YARD, ("kept", 0, 3), *stays, kept=self.KEPT)

    def test_kept_on_the_first_and_last_day(self):
        for begin in (0, 5):
            kept = ((0, 0), (begin, 0))
            self.check(YARD, ("kept", 1, 0), ("moves", 1, 0), ("from", 1, begin), kept=kept)
            self.check(YARD, ("kept", 1, 1), ("moves", 1, 0), ("ahead", 1, begin + 1), kept=kept)

    def test_kept_where_nothing_or_no_such_part_is(self):
        for work in (-2, -1, 1, 2, *BEYOND):
            for part in range(4):
                self.none(YARD, ("kept", work, part), kept=self.KEPT)
        for part in (-1, -4, 4, *BEYOND):
            self.none(YARD, ("kept", 0, part), kept=self.KEPT)
        self.none(YARD, ("kept", 0, 0))
        self.none(YARD, ("kept", 0, 0), kept=(None, None))
        for reason in (("kept",), ("kept", 0), ("kept", 0, 0, 0)):
            self.none(YARD, reason, kept=self.KEPT)

    def test_few(self):
        yard = make_yard([make_work([make_way(1)], high=3)] * 4, days=3)
        kept = ((0, 0), None, (1, 0), (2, 0))
        for most in range(3):
            for count in range(5):
                for some in itertools.combinations((0, 2, 3), count):
                    if count == most + 1:
                        sayings = [("stays", work, 0) for work in some]
                        self.check(yard, ("few", *some), *sayings, kept=kept, most=most)
                    else:
                        self.none(yard, ("few", *some), kept=kept, most=most)

    def test_few_of_works_that_are_not_kept_or_do_not_rise(self):
        yard = make_yard([make_work([make_way(1)], high=3)] * 4, days=3)
        kept = ((0, 0), None, (1, 0), (2, 0))
        for some in ((0, 1), (1, 2), (2, 0), (3, 2), (2, 2), (-1, 0), (-2, 0), (3, 4), (0, FAR), (-FAR, 0)):
            self.none(yard, ("few", *some), kept=kept, most=1)
        for work in (-1, 1, 4, *BEYOND):
            self.none(yard, ("few", work), kept=kept, most=0)
        self.none(yard, ("few", 0, 2))
        self.none(yard, ("few", 0), most=0)

    def test_few_where_any_number_may_move(self):
        yard = make_yard([make_work([make_way(1)], high=3)] * 2, days=3)
        for some in ((), (0,), (1,), (0, 1)):
            self.none(yard, ("few", *some), kept=((0, 0), (1, 0)))
            self.none(yard, ("few", *some), kept=((0, 0), (1, 0)), most=2)


class Others(Case):
    def test_other_texts(self):
        for reason in (
            (), ("",), ("led",), ("led", 0), ("led", 0, 1), ("Alone", 0, 0), ("lone", 0, 0), ("ties", 0, 0, 0),
            ("moves", 0, 0), ("from", 0, 0), ("", 0, 0), ("alone ", 0, 0), ("fewer", 0),
        ):
            self.none(YARD, reason, kept=((0, 0), (0, 0)), most=0)


class Refusals(unittest.TestCase):
    GOOD = {"yard": YARD, "bound": 6, "kept": ((0, 0), None), "most": 2}
    BAD = {"yard": (21, *YARD[1:]), "bound": 7, "kept": ((0, 2), None), "most": 3}
    NAMES = {"yard": "BadYard", "bound": "BadBound", "kept": "BadKept", "most": "BadMost"}

    def test_in_their_order_and_ahead_of_no_line(self):
        for wrong in itertools.product((False, True), repeat=4):
            bad = [key for key, is_bad in zip(self.GOOD, wrong) if is_bad]
            given = {key: self.BAD[key] if key in bad else self.GOOD[key] for key in self.GOOD}
            for reason, want in ((("alone", 0, 0), None), (("led", 0), "NoLine"), ((), "NoLine")):
                got = told(bears, given.pop("yard"), reason, **given)
                self.assertEqual(got and got[0], self.NAMES[bad[0]] if bad else want)
                given["yard"] = self.BAD["yard"] if "yard" in bad else YARD

    def test_bounds(self):
        for bound in (0, 1, 6, None):
            self.assertIsNone(told(bears, YARD, ("alone", 0, 0), bound=bound))
        for bound in (-1, 7, *BEYOND):
            want = ("BadBound", {"bound": bound, "word": "badbound"})
            self.assertEqual(told(bears, YARD, ("alone", 0, 0), bound=bound), want)

    def test_kept(self):
        for kept in ((), (None, None), ((0, 0), (5, 0)), ((5, 1), None)):
            self.assertIsNone(told(bears, YARD, ("alone", 0, 0), kept=kept))
        for kept, at in (
            (((6, 0), None), 0), (((-1, 0), None), 0), (((0, 2), (9, 9)), 0), (((0, -1), None), 0),
            ((None, (0, 1)), 1), (((FAR, 0), None), 0), ((None, (0, -FAR)), 1), ((None,), 1), ((None,) * 3, 2),
            (((0, 0),), 1), (((6, 0),), 0), ((None, (0, 1), None), 1), (((0, 0), (0, 0), (9, 9)), 2),
        ):
            want = ("BadKept", {"at": at, "word": "badkept"})
            self.assertEqual(told(bears, YARD, ("alone", 0, 0), kept=kept), want, kept)
        self.assertEqual(told(bears, make_yard([]), (), kept=(None,)), ("BadKept", {"at": 0, "word": "badkept"}))

    def test_most(self):
        for most in (0, 1, 2, None):
            self.assertIsNone(told(bears, YARD, ("alone", 0, 0), most=most))
        for most in (-1, 3, *BEYOND):
            want = ("BadMost", {"most": most, "word": "badmost"})
            self.assertEqual(told(bears, YARD, ("alone", 0, 0), most=most), want)
        self.assertEqual(told(bears, make_yard([]), (), most=1)[0], "BadMost")
        self.assertEqual(told(bears, make_yard([]), (), most=0)[0], "NoLine")


class Chance(unittest.TestCase):
    def test_against_a_plain_telling(self):
        seen = {}
        for seed in range(900):
            yard = chance_yard(seed) if seed % 3 else small_yard(seed)
            chance = random.Random(seed)
            ask = chance_ask(chance, yard)
            for _ in range(8):
                reason = chance_reason(chance, yard, ask)
                want = plain_line(yard, reason, **ask)
                if want is None:
                    self.assertEqual(told(bears, yard, reason, **ask), NO_LINE, reason)
                else:
                    self.assertEqual(bears(yard, reason, **ask), want, reason)
                key = (reason[0], want is not None)
                seen[key] = seen.get(key, 0) + 1
        self.assertEqual(len(seen), 10, seen)
        self.assertGreater(min(seen.values()), 20, seen)

    def test_lines_hold_of_all_plans_of_the_ask(self):
        checked = {}
        for seed in range(800):
            yard, chance = small_yard(seed), random.Random(seed)
            ask = chance_ask(chance, yard)
            plans = plain_plans(yard, **ask)
            for reason in [chance_reason(chance, yard, ask) for _ in range(30)]:
                if told(bears, yard, reason, **ask) is not None:
                    continue
                line = bears(yard, reason, **ask)
                for plan in plans:
                    good = [saying for saying in line if plain_holds(plan, ask["kept"], saying)]
                    self.assertTrue(good, (yard, ask, reason, plan))
                checked[reason[0]] = checked.get(reason[0], 0) + len(plans)
        self.assertEqual(set(checked), {"alone", "tie", "stretch", "kept", "few"})
        self.assertGreater(min(checked.values()), 100, checked)

    def test_the_greatest_yard(self):
        yard = full_yard()
        rows = tuple([(work, 0, 20, (0, 1, 2)) for work in range(6)])
        self.assertEqual(told(bears, yard, ("stretch", 2, 0, 20, rows)), NO_LINE)
        rows = tuple([(work, 0, 20, (0,)) for work in range(6)])
        self.assertEqual(bears(yard, ("stretch", 2, 0, 20, rows)), plain_line(yard, ("stretch", 2, 0, 20, rows)))
        self.assertEqual(yard[4][11][0], END)
        self.assertEqual(bears(yard, ("tie", 11, 19, 20)), plain_line(yard, ("tie", 11, 19, 20)))


if __name__ == "__main__":
    unittest.main()
