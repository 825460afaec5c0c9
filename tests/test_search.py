"""[11], [16] and the interface of hodman/search.py."""

import copy
import inspect
import itertools
import random
import unittest

from hodman.judge import first_bad, needed, shows
from hodman.search import search
from hodman.yards import START, make_tie, make_way, make_work, make_yard
from tests.helper import BEYOND, chance_ask, chance_yard, full_yard, plain_broken, plain_end, plain_first_bad
from tests.helper import plain_plans, small_yard, told


class Case(unittest.TestCase):
    def good_plan(self, yard, plan, bound=None, kept=(), most=None):
        self.assertIs(type(plan), list)
        self.assertEqual(len(plan), len(yard[3]))
        self.assertIsNone(plain_broken(yard, plan), (yard, plan))
        self.assertLessEqual(plain_end(yard, plan), yard[0] if bound is None else bound)
        moving = [at for at, pair in enumerate(kept) if pair is not None and pair != plan[at]]
        self.assertLessEqual(len(moving), len(plan) if most is None else most)

    def good_log(self, yard, log, **ask):
        """It shows that there is no plan, its last line alone is empty, and each other row is told later."""
        self.assertIs(type(log), list)
        self.assertIsNone(first_bad(yard, log, **ask), (yard, ask, log))
        self.assertIs(shows(yard, log, **ask), True)
        self.assertEqual([at for at, (line, _) in enumerate(log) if line == ()], [len(log) - 1])
        telling = {number for _, reason in log if reason[0] == "led" for number in reason[1:]}
        self.assertEqual(telling, set(range(len(log) - 1)))
        self.assertEqual(needed(log), log)

    def answer(self, yard, **ask):
        """Whether there is a plan, once what is told of it is looked at."""
        out = search(yard, **ask)
        self.assertIs(type(out), tuple)
        plan, log = out
        self.assertIs(plan is None, log is not None)
        if plan is None:
            self.good_log(yard, log, **ask)
        else:
            self.good_plan(yard, plan, **ask)
        return plan is not None

    def has(self, yard, **ask):
        self.assertTrue(self.answer(yard, **ask), (yard, ask))

    def lacks(self, yard, **ask):
        self.assertFalse(self.answer(yard, **ask), (yard, ask))


class Arguments(Case):
    def test_as_told(self):
        self.assertEqual(str(inspect.signature(search)), "(yard, *, bound=None, kept=(), most=None)")

    def test_by_name(self):
        yard = make_yard([make_work([make_way(1)], high=1)])
        self.assertEqual(search(most=None, kept=(), bound=None, yard=yard), ([(0, 0)], None))


class Edges(Case):
    def test_no_works(self):
        for days in (1, 20):
            yard = make_yard([], days=days, stuffs=[[0] * days])
            for bound in (0, days, None):
                for most in (0, None):
                    self.assertEqual(search(yard, bound=bound, most=most), ([], None))

    def test_bounds(self):
        yard = make_yard([make_work([make_way(3), make_way(2)], low=1, high=6)], days=6)
        for bound in range(7):
            self.assertIs(self.answer(yard, bound=bound), bound >= 3)
        self.has(yard, bound=None)
        self.assertEqual(search(yard, bound=3)[0], [(1, 1)])

    def test_ends_behind_the_days(self):
        self.has(make_yard([make_work([make_way(9)], high=9)], days=9))
        self.lacks(make_yard([make_work([make_way(9)], low=1, high=9)], days=9))
        self.lacks(make_yard([make_work([make_way(9)], high=1)], days=8))

    def test_shut_days(self):
        for rests, shut, has in (
            (1, [0, 1, 2, 3], False), (0, [0, 1, 2, 3], True), (1, [1, 3], True), (1, [0, 1, 3], False),
            (1, [0, 3], True), (1, [2], True), (0, [], True),
        ):
            yard = make_yard([make_work([make_way(2, rests=rests)], high=4)], days=4, shut=shut)
            self.assertIs(self.answer(yard), has, (rests, shut))
        yard = make_yard([make_work([make_way(2, rests=1)], low=1, high=2)], days=4, shut=[1])
        self.lacks(yard)
        yard = make_yard([make_work([make_way(2, rests=1), make_way(3)], low=1, high=2)], days=4, shut=[1])
        self.assertEqual(search(yard), ([(1, 1)], None))

    def test_stuffs(self):
        work = make_work([make_way(2, needs=[5])], high=6)
        for days, has in ((6, True), (5, False)):
            works = [(0, days, work[2])] * 3
            self.assertIs(self.answer(make_yard(works, days=days, stuffs=[[9] * days])), has)
        self.lacks(make_yard([work], days=6, stuffs=[[4] * 6]))
        self.lacks(make_yard([work], days=6, stuffs=[[9, 0] * 3]))
        self.assertEqual(search(make_yard([work], days=6, stuffs=[[9, 0, 9, 0, 5, 5]])), ([(4, 0)], None))

    def test_ties(self):
        works = [make_work([make_way(2)], high=5), make_work([make_way(1)], high=5)]
        for ties, has in (
            ([make_tie(0, 1)], True), ([make_tie(0, 1, gap=2)], True), ([make_tie(0, 1, gap=3)], False),
            ([make_tie(0, 1), make_tie(1, 0)], False), ([make_tie(0, 1, gap=-3), make_tie(1, 0)], True),
            ([make_tie(0, 1, kind=START), make_tie(1, 0, kind=START)], True),
            ([make_tie(0, 1, kind=START, gap=1), make_tie(1, 0, kind=START)], False),
            ([make_tie(0, 1, kind=START, gap=1), make_tie(1, 0, kind=START, gap=-1)], True),
            ([make_tie(0, 1, kind=START, gap=4)], True), ([make_tie(0, 1, kind=START, gap=5)], False),
            ([make_tie(0, 1, gap=20)], False), ([make_tie(0, 1, gap=-20)] * 12, True),
            ([make_tie(0, 1, kind=START, gap=-20), make_tie(1, 0, gap=20)], False),
        ):
            self.assertIs(self.answer(make_yard(works, days=5, ties=ties)), has, ties)

    def test_kept(self):
        works = [make_work([make_way(2, needs=[1]), make_way(3, needs=[0])], high=6)] * 3
        yard = make_yard(works, days=6, stuffs=[[1] * 6])
        clash = ((1, 0), (2, 0), (3, 0))
        for kept, fewest in (
            ((), 0), ((None,) * 3, 0), (clash, 1), ((None, *clash[1:]), 1), ((clash[0], None, clash[2]), 0),
            (((0, 0), (2, 0), (4, 0)), 0), (((5, 0), (5, 1), None), 2), (((0, 0),) * 3, 2), (((0, 1),) * 3, 0),
        ):
            for most in range(4):
                self.assertIs(self.answer(yard, kept=kept, most=most), most >= fewest, (kept, most))
            self.has(yard, kept=kept)

    def test_kept_outside_of_its_own_bounds(self):
        yard = make_yard([make_work([make_way(1)], low=1, high=2)], days=3)
        for begin in (0, 2):
            self.lacks(yard, kept=((begin, 0),), most=0)
            self.has(yard, kept=((begin, 0),), most=1)
        self.assertEqual(search(yard, kept=((1, 0),), most=0), ([(1, 0)], None))

    def test_all_stay(self):
        yard = make_yard([make_work([make_way(1)] * 3, high=7)] * 4, days=7)
        kept = ((6, 2), (0, 1), (3, 0), (5, 2))
        self.assertEqual(search(yard, kept=kept, most=0), (list(kept), None))


class Refusals(Case):
    def test_in_their_order(self):
        yard = make_yard([make_work([make_way(1)], high=2)] * 2, days=2)
        good = (("bound", 2), ("kept", ((0, 0), None)), ("most", 2))
        bad = (("bound", 3), ("kept", ((0, 1), None)), ("most", 3))
        names = ("BadYard", "BadBound", "BadKept", "BadMost")
        for wrong in itertools.product((False, True), repeat=4):
            due = [name for name, is_bad in zip(names, wrong) if is_bad]
            ask = dict([bad[at] if wrong[at + 1] else good[at] for at in range(3)])
            got = told(search, (0, *yard[1:]) if wrong[0] else yard, **ask)
            self.assertEqual(got and got[0], due[0] if due else None)

    def test_their_fields(self):
        yard = make_yard([make_work([make_way(1)], high=2)] * 2, days=2)
        for far in (-1, 3, *BEYOND):
            self.assertEqual(told(search, yard, bound=far), ("BadBound", {"bound": far, "word": "badbound"}))
            self.assertEqual(told(search, yard, most=far), ("BadMost", {"most": far, "word": "badmost"}))
            kept = (None, (far, 0))
            self.assertEqual(told(search, yard, kept=kept), ("BadKept", {"at": 1, "word": "badkept"}))
        self.assertEqual(told(search, yard, kept=(None,)), ("BadKept", {"at": 1, "word": "badkept"}))
        self.assertEqual(told(search, yard, kept=(None,) * 5), ("BadKept", {"at": 2, "word": "badkept"}))
        want = ("BadYard", {"part": "ties", "at": 0, "word": "badyard"})
        self.assertEqual(told(search, (*yard[:4], ((0, 0, 0, 0),)), bound=-1), want)


def limit_yard(seed):
    """A yard of seven days, four works, two ways, two stuffs and three ties, in which much is crowded."""
    chance = random.Random(seed)
    shut = tuple([day for day in range(7) if chance.random() < 0.15])
    stuffs = tuple([tuple([chance.randint(4, 8) for _ in range(7)]) for _ in range(2)])
    works = []
    for _ in range(4):
        ways = [(chance.randint(1, 3), chance.randint(0, 1), (chance.randint(1, 4), chance.randint(1, 4)))
                for _ in range(2)]
        works.append((chance.randint(0, 1), 7, tuple(ways)))
    ties = [(chance.randint(0, 1), *sorted(chance.sample(range(4), 2)), chance.randint(-2, 1)) for _ in range(3)]
    return (7, shut, stuffs, tuple(works), tuple(ties))


class Chance(Case):
    def test_all_plans_gone_through(self):
        seen = {}
        for seed in range(1200):
            yard, chance = small_yard(seed), random.Random(seed)
            ask = chance_ask(chance, yard)
            plans = plain_plans(yard, **ask)
            has = self.answer(yard, **ask)
            self.assertIs(has, plans != [], (yard, ask))
            if has:
                self.assertIn(search(yard, **ask)[0], plans)
            else:
                self.assertIsNone(plain_first_bad(yard, search(yard, **ask)[1], **ask))
            key = (has, ask["most"] is not None and any(ask["kept"]))
            seen[key] = seen.get(key, 0) + 1
        self.assertEqual(len(seen), 4)
        self.assertGreater(min(seen.values()), 100, seen)

    def test_each_bound_and_number_in_turn(self):
        for seed in range(2000, 2060):
            yard, chance = small_yard(seed), random.Random(seed)
            kept = chance_ask(chance, yard)["kept"]
            for bound in range(yard[0] + 1):
                plans = plain_plans(yard, bound, kept)
                counts = [len([1 for pair, keep in zip(plan, kept) if keep not in (None, pair)]) for plan in plans]
                for most in range(len(yard[3]) + 1):
                    has = self.answer(yard, bound=bound, kept=kept, most=most)
                    self.assertIs(has, min(counts, default=99) <= most, (yard, bound, kept, most))

    def test_yards_up_to_the_limit(self):
        seen = set()
        for seed in range(60):
            yard = limit_yard(seed)
            ends = []
            for bound in range(8):
                ends.append(self.answer(yard, bound=bound))
            self.assertEqual(ends, sorted(ends))
            seen.add(ends.count(True))
            chance = random.Random(seed)
            kept = tuple([(chance.randrange(7), chance.randrange(2)) for _ in range(4)])
            moves = [self.answer(yard, kept=kept, most=most) for most in range(5)]
            self.assertEqual(moves, sorted(moves))
            self.assertIs(moves[-1], ends[-1])
        self.assertGreater(len(seen), 3)

    def test_greater_yards(self):
        for seed in range(120):
            yard = chance_yard(seed)
            self.answer(yard, **chance_ask(random.Random(seed), yard))

    def test_works_of_which_no_two_go_on_at_once(self):
        # What is there in all would do, but not side by side.
        for count, long, days in ((3, 2, 5), (4, 2, 7), (5, 2, 9), (6, 3, 17)):
            works = [make_work([make_way(long, needs=[5])], high=days)] * count
            self.lacks(make_yard(works, days=days, stuffs=[[9] * days]))
            works = [make_work([make_way(long, needs=[5])], high=days + 1)] * count
            self.has(make_yard(works, days=days + 1, stuffs=[[9] * (days + 1)]))

    def test_the_greatest_yard(self):
        self.lacks(full_yard())
        yard = full_yard()
        self.has((*yard[:4], ()))
        self.has((*yard[:4], ()), bound=1)
        kept = tuple([(work, 1) for work in range(6)])
        self.has((*yard[:4], ()), bound=6, kept=kept, most=0)
        self.lacks((*yard[:4], ()), bound=5, kept=kept, most=0)


class Asking(Case):
    def test_tells_alike_and_changes_nothing(self):
        for seed in range(80):
            yard = small_yard(seed)
            ask = chance_ask(random.Random(seed), yard)
            before = copy.deepcopy((yard, ask))
            first = search(yard, **ask)
            want = copy.deepcopy(first)
            self.assertEqual((yard, ask), before)
            for told_list in first:
                if told_list is not None:
                    told_list.append("more")
                    told_list.reverse()
            self.assertEqual(search(yard, **ask), want)
            self.assertEqual(search(copy.deepcopy(yard), **copy.deepcopy(ask)), want)

    def test_kinds(self):
        for seed in range(60):
            plan, log = search(small_yard(seed))
            for thing in [*(plan or []), *(log or [])]:
                self.assertIs(type(thing), tuple)
                self.assertEqual(len(thing), 2)
            for line, reason in log or []:
                self.assertIs(type(line), tuple)
                self.assertIs(type(reason), tuple)


if __name__ == "__main__":
    unittest.main()
