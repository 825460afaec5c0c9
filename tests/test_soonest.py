"""[8], [11], [15], [16] and the interface of hodman/soonest.py."""

import copy
import inspect
import itertools
import random
import unittest

from hodman.judge import first_bad, needed, shows
from hodman.search import search
from hodman.soonest import fewest, rooms, soonest
from hodman.yards import START, make_tie, make_way, make_work, make_yard
from tests.helper import BEYOND, chance_ask, chance_yard, full_yard, log_faults, plain_broken, plain_end, plain_moves
from tests.helper import plain_plans, refusal, small_yard, spoil, told

# Six days; two works that can't go on side by side.
HEAVY = make_work([make_way(2, needs=[2])], high=6)
PAIR = make_yard([HEAVY, HEAVY], days=6, stuffs=[[3] * 6])


def no_plan_yard(days):
    """A yard of so many days in which no plan is."""
    return make_yard([make_work([make_way(1, needs=[1])], high=days)], days=days, stuffs=[[0] * days])


def moderate_yard(seed):
    """A yard by chance of six works at most on up to nine days, of which some plans are often there."""
    chance = random.Random(seed)
    days = chance.randint(5, 9)
    shut = tuple([day for day in range(days) if chance.random() < 0.15])
    stuffs = tuple([tuple([chance.randint(4, 9) for _ in range(days)]) for _ in range(chance.randint(0, 3))])
    works = []
    for _ in range(chance.randint(2, 6)):
        count = chance.randint(1, 3)
        ways = [(chance.randint(1, 3), chance.randint(0, 1), tuple([chance.randint(0, 4) for _ in stuffs]))
                for _ in range(count)]
        works.append((chance.randint(0, 1), days, tuple(ways)))
    ties = []
    for _ in range(chance.randint(0, 4)):
        one, other = sorted(chance.sample(range(len(works)), 2))
        ties.append((chance.randint(0, 1), one, other, chance.randint(-2, 1)))
    return (days, shut, stuffs, tuple(works), tuple(ties))


class Case(unittest.TestCase):
    def good_log(self, yard, log, **ask):
        """By the judge, row by row by a plain second one, and by the end of [16]."""
        self.assertIs(type(log), list)
        self.assertEqual(log_faults(yard, log, **ask), [], (yard, ask))
        self.assertIs(shows(yard, log, **ask), True)
        self.assertIsNone(first_bad(yard, log, **ask))
        self.assertEqual(needed(log), log)

    def good_plan(self, yard, plan):
        self.assertIs(type(plan), list)
        self.assertEqual([type(pair) for pair in plan], [tuple] * len(yard[3]))
        self.assertIsNone(plain_broken(yard, plan), (yard, plan))

    def no_plan(self, error, yard, bound=None):
        self.assertEqual((type(error).__name__, error.word), ("NoPlan", "noplan"))
        self.good_log(yard, error.log, bound=bound)

    def soonest_of(self, yard):
        """The soonest end, or None, once all that is told with it is looked at."""
        error = refusal(soonest, yard)
        if error is not None:
            self.no_plan(error, yard)
            return None
        out = soonest(yard)
        self.assertIs(type(out), tuple)
        end, plan, log = out
        self.good_plan(yard, plan)
        self.assertEqual(plain_end(yard, plan), end)
        if yard[3]:
            self.good_log(yard, log, bound=end - 1)
        else:
            self.assertEqual(out, (0, [], []))
        return end

    def fewest_of(self, yard, kept, bound=None):
        """The fewest that move, or None, once all that is told with it is looked at."""
        error = refusal(fewest, yard, kept, bound=bound)
        if error is not None:
            self.no_plan(error, yard, bound)
            return None
        out = fewest(yard, kept, bound=bound)
        self.assertIs(type(out), tuple)
        many, plan, log = out
        until = soonest(yard)[0] if bound is None else bound
        self.good_plan(yard, plan)
        self.assertLessEqual(plain_end(yard, plan), until)
        self.assertEqual(plain_moves(plan, kept), many)
        if many:
            self.good_log(yard, log, bound=until, kept=kept, most=many - 1)
        else:
            self.assertEqual(log, [])
        return many

    def good_rooms(self, yard, bound, plans):
        out = rooms(yard, bound=bound)
        if out is None:
            self.assertEqual(plans, [], (yard, bound))
            return
        self.assertIs(type(out), list)
        self.assertEqual(len(out), len(yard[3]))
        for work, room in enumerate(out):
            self.assertEqual([type(room), type(room[2])], [tuple, list])
            low, high, ways = room
            self.assertTrue(yard[3][work][0] <= low < high <= yard[3][work][1])
            self.assertTrue(ways == sorted(set(ways)) != [])
            self.assertLessEqual(set(ways), set(range(len(yard[3][work][2]))))
            for plan in plans:
                begin, way = plan[work]
                self.assertTrue(low <= begin < high and way in ways, (yard, bound, plan))


class Arguments(Case):
    def test_as_told(self):
        self.assertEqual(str(inspect.signature(soonest)), "(yard)")
        self.assertEqual(str(inspect.signature(fewest)), "(yard, kept, *, bound=None)")
        self.assertEqual(str(inspect.signature(rooms)), "(yard, *, bound=None)")

    def test_by_name(self):
        self.assertEqual(soonest(yard=PAIR)[0], 4)
        self.assertEqual(fewest(kept=((0, 0), (0, 0)), bound=6, yard=PAIR)[0], 1)
        self.assertEqual(len(rooms(bound=6, yard=PAIR)), 2)


class Soonest(Case):
    def test_without_works(self):
        for days in (1, 20):
            for shut in ([], list(range(days))):
                yard = make_yard([], days=days, shut=shut, stuffs=[[0] * days] * 3)
                self.assertEqual(soonest(yard), (0, [], []))

    def test_one_work(self):
        for long in (1, 9):
            for low in (0, 1, 10):
                yard = make_yard([make_work([make_way(long)], low=low, high=20)], days=20)
                self.assertEqual(self.soonest_of(yard), low + long)
                self.assertEqual(soonest(yard)[1], [(low, 0)])
        last = make_yard([make_work([make_way(1)], low=19, high=20)], days=20)
        self.assertEqual(self.soonest_of(last), 20)
        only = make_yard([make_work([make_way(1)], high=1)], days=1)
        self.assertEqual(self.soonest_of(only), 1)

    def test_shut_days(self):
        works = [make_work([make_way(2, rests=1)], high=5)]
        for shut, end in (([], 2), ([0], 3), ([1], 3), ([0, 2], 4), ([0, 1, 2], 5), ([0, 1, 2, 3], None), (range(5), None)):
            self.assertEqual(self.soonest_of(make_yard(works, days=5, shut=list(shut))), end, shut)
        self.assertEqual(self.soonest_of(make_yard([make_work([make_way(2)], high=5)], days=5, shut=list(range(5)))), 2)

    def test_stuffs(self):
        self.assertEqual(self.soonest_of(PAIR), 4)
        self.assertEqual(self.soonest_of(make_yard([HEAVY, HEAVY], days=6, stuffs=[[4] * 6])), 2)
        self.assertEqual(self.soonest_of(make_yard([HEAVY, HEAVY], days=6, stuffs=[[1, 2, 2, 1, 2, 2]])), 6)
        self.assertIsNone(self.soonest_of(make_yard([HEAVY, HEAVY], days=6, stuffs=[[1, 2, 2, 1, 2, 1]])))
        two = make_yard([HEAVY, HEAVY], days=6, stuffs=[[4, 4, 3, 4, 4, 4]])
        self.assertEqual(self.soonest_of(two), 2)

    def test_ways(self):
        work = make_work([make_way(5), make_way(3, rests=1), make_way(4, needs=[])], high=8)
        self.assertEqual(self.soonest_of(make_yard([work], days=8)), 3)
        self.assertEqual(self.soonest_of(make_yard([work], days=8, shut=[1, 2])), 4)

    def test_ties(self):
        works = [make_work([make_way(2)], high=20), make_work([make_way(3)], high=20)]
        for ties, end in (
            ([], 3), ([make_tie(0, 1)], 5), ([make_tie(0, 1, gap=15)], 20), ([make_tie(0, 1, gap=16)], None),
            ([make_tie(0, 1, gap=20)], None), ([make_tie(0, 1, gap=-20)] * 12, 3),
            ([make_tie(0, 1, gap=-2)], 3), ([make_tie(0, 1, gap=-1)], 4), ([make_tie(1, 0)], 5),
            ([make_tie(0, 1, kind=START, gap=17)], 20), ([make_tie(0, 1, kind=START, gap=18)], None),
            ([make_tie(0, 1), make_tie(1, 0)], None), ([make_tie(0, 1), make_tie(1, 0, gap=-20)], 5),
        ):
            self.assertEqual(self.soonest_of(make_yard(works, days=20, ties=ties)), end, ties)

    def test_no_plan_at_all(self):
        for days in (1, 20):
            error = refusal(soonest, no_plan_yard(days))
            self.no_plan(error, no_plan_yard(days))

    def test_the_greatest_yard(self):
        yard = full_yard()
        self.assertIsNone(self.soonest_of(yard))
        self.assertEqual(self.soonest_of((*yard[:4], ())), 1)

    def test_all_plans_gone_through(self):
        seen = {}
        for seed in range(500):
            yard = small_yard(seed)
            ends = [plain_end(yard, plan) for plan in plain_plans(yard)]
            end = self.soonest_of(yard)
            self.assertEqual(end, min(ends, default=None), yard)
            seen[end] = seen.get(end, 0) + 1
        self.assertEqual(set(seen), {None, 0, 1, 2, 3, 4, 5})
        self.assertGreater(min(seen.values()), 5)

    def test_greater_yards(self):
        seen = set()
        for seed in range(60):
            seen.add(self.soonest_of(moderate_yard(seed)))
            seen.add(self.soonest_of(chance_yard(seed)))
        self.assertGreater(len(seen), 6)


class Turned(Case):
    """What may not make the soonest end later, or another one."""

    def no_later(self, yard, other):
        end, new = self.soonest_of(yard), self.soonest_of(other)
        if end is not None:
            self.assertIsNotNone(new, (yard, other))
            self.assertLessEqual(new, end, (yard, other))
        return end != new

    def test_raising_a_stuff(self):
        turned = 0
        for seed in range(150):
            yard = moderate_yard(seed) if seed % 2 else small_yard(seed)
            chance = random.Random(seed)
            if yard[2]:
                rows = [list(row) for row in yard[2]]
                row = chance.choice(rows)
                for day in chance.sample(range(yard[0]), min(yard[0], 3)):
                    row[day] = min(9, row[day] + chance.randint(1, 4))
                turned += self.no_later(yard, (*yard[:2], tuple([tuple(row) for row in rows]), *yard[3:]))
        self.assertGreater(turned, 5)

    def test_leaving_out_a_tie(self):
        turned = 0
        for seed in range(120):
            yard = moderate_yard(seed) if seed % 2 else small_yard(seed)
            for at in range(len(yard[4])):
                turned += self.no_later(yard, (*yard[:4], yard[4][:at] + yard[4][at + 1:]))
        self.assertGreater(turned, 10)

    def test_another_order(self):
        for seed in range(100):
            yard = moderate_yard(seed) if seed % 2 else small_yard(seed)
            chance = random.Random(seed)
            kept = chance_ask(chance, yard)["kept"]
            works, stuffs = list(range(len(yard[3]))), list(range(len(yard[2])))
            chance.shuffle(works)
            chance.shuffle(stuffs)
            ways = [chance.sample(range(len(work[2])), len(work[2])) for work in yard[3]]
            other = shuffled(yard, works, stuffs, ways)
            ties = list(other[4])
            chance.shuffle(ties)
            other = (*other[:4], tuple(ties))
            self.assertEqual(self.soonest_of(yard), self.soonest_of(other), yard)
            pairs = tuple([kept[work] and (kept[work][0], ways[work].index(kept[work][1])) for work in works if kept])
            self.assertEqual(self.fewest_of(yard, kept), self.fewest_of(other, pairs), yard)


def shuffled(yard, works, stuffs, ways):
    """The yard with works, stuffs and ways in another order, which tells the old places."""
    days, shut, rows, old, ties = yard
    new = []
    for work in works:
        low, high, told_ways = old[work]
        plain = [(told_ways[way][0], told_ways[way][1], tuple([told_ways[way][2][stuff] for stuff in stuffs]))
                 for way in ways[work]]
        new.append((low, high, tuple(plain)))
    moved_ties = tuple([(kind, works.index(one), works.index(other), gap) for kind, one, other, gap in ties])
    return (days, shut, tuple([rows[stuff] for stuff in stuffs]), tuple(new), moved_ties)


class Fewest(Case):
    def test_nothing_kept(self):
        for kept in ((), (None, None)):
            for bound in (None, 4, 6):
                many, plan, log = fewest(PAIR, kept, bound=bound)
                self.assertEqual((many, log), (0, []))
                self.assertIsNone(plain_broken(PAIR, plan))
        self.assertEqual(fewest(make_yard([], days=1), ()), (0, [], []))
        for bound in (0, 1, None):
            self.assertEqual(fewest(make_yard([], days=1), (), bound=bound), (0, [], []))

    def test_the_bound(self):
        kept = ((0, 0), (4, 0))
        for bound, many in ((None, 1), (4, 1), (5, 1), (6, 0), (3, None), (0, None)):
            self.assertEqual(self.fewest_of(PAIR, kept, bound), many, bound)
        self.assertEqual(fewest(PAIR, kept, bound=6), (0, [(0, 0), (4, 0)], []))

    def test_none_is_the_soonest_end(self):
        for seed in range(120):
            yard = small_yard(seed)
            kept = chance_ask(random.Random(seed), yard)["kept"]
            end = self.soonest_of(yard)
            if end is not None:
                many, plan, log = fewest(yard, kept)
                self.assertEqual(plain_end(yard, plan), end)
                self.assertEqual(fewest(yard, kept, bound=end)[0], many)

    def test_some_kept(self):
        works = [make_work([make_way(2, needs=[1]), make_way(3, needs=[0])], high=6)] * 3
        yard = make_yard(works, days=6, stuffs=[[1] * 6])
        for kept, by_days, by_end in (
            (((1, 0), (2, 0), (3, 0)), 1, 2), ((None, (2, 0), (3, 0)), 1, 2), (((1, 0), None, (3, 0)), 0, 1),
            (((0, 0), (2, 0), (4, 0)), 0, 2), (((5, 0), (5, 1), None), 2, 2), (((0, 0),) * 3, 2, 2),
            (((0, 1),) * 3, 0, 0), (((0, 1), (0, 0), (0, 1)), 0, 0), ((None,) * 3, 0, 0),
        ):
            self.assertEqual(self.fewest_of(yard, kept, 6), by_days, kept)
            self.assertEqual(self.fewest_of(yard, kept), by_end, kept)

    def test_kept_where_it_can_not_begin(self):
        yard = make_yard([make_work([make_way(1)], low=1, high=2)], days=3, shut=[1])
        for begin in (0, 2):
            self.assertEqual(self.fewest_of(yard, ((begin, 0),)), 1)
        self.assertEqual(self.fewest_of(yard, ((1, 0),)), 0)

    def test_no_plan_of_which_nothing_is_kept(self):
        for bound in (None, 0, 1, 3):
            error = refusal(fewest, no_plan_yard(3), ((0, 0),), bound=bound)
            self.no_plan(error, no_plan_yard(3), bound)
        for bound in (0, 1, 2, 3):
            self.no_plan(refusal(fewest, PAIR, ((0, 0), (2, 0)), bound=bound), PAIR, bound)

    def test_all_plans_gone_through(self):
        seen = {}
        for seed in range(400):
            yard, chance = small_yard(seed), random.Random(seed)
            kept, bound = chance_ask(chance, yard)["kept"], chance.choice((None, None, 0, yard[0], chance.randint(0, yard[0])))
            plans = plain_plans(yard)
            until = min([plain_end(yard, plan) for plan in plans], default=0) if bound is None else bound
            counts = [plain_moves(plan, kept) for plan in plans if plain_end(yard, plan) <= until]
            many = self.fewest_of(yard, kept, bound)
            self.assertEqual(many, min(counts, default=None), (yard, kept, bound))
            seen[many] = seen.get(many, 0) + 1
        self.assertEqual(set(seen), {None, 0, 1, 2, 3})

    def test_greater_yards(self):
        seen = set()
        for seed in range(60):
            yard, chance = moderate_yard(seed), random.Random(seed)
            kept = tuple([None if chance.random() < 0.2 else (chance.randrange(yard[0]), chance.randrange(len(work[2])))
                          for work in yard[3]])
            seen.add(self.fewest_of(yard, kept, chance.choice((None, yard[0]))))
        self.assertGreater(len(seen), 4)


class Rooms(Case):
    def test_edges(self):
        self.assertEqual(rooms(make_yard([], days=1)), [])
        self.assertEqual(rooms(make_yard([], days=1), bound=0), [])
        one = make_yard([make_work([make_way(1)], low=3, high=4)], days=5)
        self.assertEqual(rooms(one), [(3, 4, [0])])

    def test_none_is_all_days(self):
        for seed in range(40):
            yard = small_yard(seed)
            self.assertEqual(rooms(yard), rooms(yard, bound=yard[0]))

    def test_all_plans_gone_through(self):
        for seed in range(300):
            yard = small_yard(seed)
            plans = plain_plans(yard)
            for bound in (None, *range(yard[0] + 1)):
                until = yard[0] if bound is None else bound
                self.good_rooms(yard, bound, [plan for plan in plans if plain_end(yard, plan) <= until])

    def test_greater_yards(self):
        for seed in range(60):
            yard = moderate_yard(seed)
            for bound in (None, yard[0] - 1, yard[0] // 2, 0):
                plan = search(yard, bound=bound)[0]
                self.good_rooms(yard, bound, [] if plan is None else [plan])


class Refusals(Case):
    def test_in_their_order(self):
        bad_yard = (0, *PAIR[1:])
        for wrong in itertools.product((False, True), repeat=3):
            yard = bad_yard if wrong[0] else PAIR
            bound = 7 if wrong[1] else 6
            kept = ((0, 0), (0, 1)) if wrong[2] else ((0, 0), (0, 0))
            names = ("BadYard", "BadBound", "BadKept")
            due = [name for name, is_bad in zip(names, wrong) if is_bad]
            self.assertEqual((told(fewest, yard, kept, bound=bound) or [None])[0], due[0] if due else None)
            due = [name for name in due if name != "BadKept"]
            self.assertEqual((told(rooms, yard, bound=bound) or [None])[0], due[0] if due else None)
            self.assertEqual((told(soonest, yard) or [None])[0], "BadYard" if wrong[0] else None)

    def test_ahead_of_no_plan(self):
        yard = no_plan_yard(3)
        self.assertEqual(told(fewest, yard, ((3, 0),))[0], "BadKept")
        self.assertEqual(told(fewest, yard, (), bound=4)[0], "BadBound")
        self.assertEqual(told(fewest, yard, ())[0], "NoPlan")

    def test_their_fields(self):
        for far in (-1, 7, *BEYOND):
            want = ("BadBound", {"bound": far, "word": "badbound"})
            self.assertEqual(told(fewest, PAIR, ((far, far),), bound=far), want)
            self.assertEqual(told(rooms, PAIR, bound=far), want)
            self.assertEqual(told(fewest, PAIR, ((0, 0), (far, 0))), ("BadKept", {"at": 1, "word": "badkept"}))
            self.assertEqual(told(fewest, PAIR, ((0, far), (0, 0))), ("BadKept", {"at": 0, "word": "badkept"}))
        for kept, at in (((None,), 1), (((0, 0),) * 3, 2), (((0, 0), (6, 0), None), 1), ((None,) * 9, 2)):
            self.assertEqual(told(fewest, PAIR, kept), ("BadKept", {"at": at, "word": "badkept"}))
        self.assertEqual(told(fewest, make_yard([]), (None,)), ("BadKept", {"at": 0, "word": "badkept"}))

    def test_each_part_of_a_yard(self):
        for part, at, yard in (
            ("days", 0, (21, *PAIR[1:])), ("shut", 1, (6, (1, 1), *PAIR[2:])), ("stuffs", 0, (6, (), ((1,),), *PAIR[3:])),
            ("works", 1, (*PAIR[:3], (HEAVY, (0, 7, HEAVY[2])), ())), ("ties", 0, (*PAIR[:4], ((0, 0, 2, 0),))),
        ):
            want = ("BadYard", {"part": part, "at": at, "word": "badyard"})
            self.assertEqual(told(soonest, yard), want)
            self.assertEqual(told(fewest, yard, ((99, 99),), bound=99), want)
            self.assertEqual(told(rooms, yard, bound=99), want)


class Asking(Case):
    def asked(self, yard, kept, bound):
        out = []
        for call, things, named in (
            (soonest, (yard,), {}), (fewest, (yard, kept), {"bound": bound}), (fewest, (yard, kept), {}),
            (rooms, (yard,), {"bound": bound}),
        ):
            error = refusal(call, *things, **named)
            out.append(error.log if error is not None else call(*things, **named))
        return out

    def test_tells_alike_and_changes_nothing(self):
        for seed in range(60):
            yard, chance = small_yard(seed), random.Random(seed)
            kept, bound = chance_ask(chance, yard)["kept"], chance.randint(0, yard[0])
            before = copy.deepcopy((yard, kept))
            first = self.asked(yard, kept, bound)
            want = copy.deepcopy(first)
            self.assertEqual((yard, kept), before)
            for thing in first:
                spoil(thing)
            self.assertEqual(self.asked(yard, kept, bound), want)
            self.assertEqual(self.asked(*copy.deepcopy((yard, kept)), bound), want)

    def test_the_log_of_a_refusal_is_its_own(self):
        for call in (lambda: soonest(no_plan_yard(2)), lambda: fewest(no_plan_yard(2), ())):
            error = refusal(call)
            want = list(error.log)
            error.log.clear()
            self.assertEqual(refusal(call).log, want)


if __name__ == "__main__":
    unittest.main()
