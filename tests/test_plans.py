"""[7], [8] and the interface of hodman/plans.py."""

import inspect
import random
import unittest

import hodman.plans as plans_module
from hodman.plans import broken, check_kept, end_of, moved, table
from hodman.yards import END, START, make_tie, make_way, make_work, make_yard
from tests.helper import BEYOND, FAR, chance_plan, chance_yard, full_yard
from tests.helper import plain_broken, plain_end, plain_table, told

# Day 2 is shut; the first work may rest on it or not.
WORKS = [
    make_work([make_way(3, needs=(1, 2)), make_way(2, rests=1, needs=(2, 0))], low=1, high=5),
    make_work([make_way(2, needs=(1, 1))], high=6),
    make_work([make_way(1, rests=1, needs=(0, 3))], high=6),
]
STUFFS = [[2] * 6, [3, 3, 3, 3, 3, 3]]
YARD = make_yard(WORKS, days=6, shut=[2], stuffs=STUFFS)


def tied(*ties):
    return make_yard(WORKS, days=6, shut=[2], stuffs=[[9] * 6] * 2, ties=ties)


def lone(way, **bounds):
    """A yard of one work of one way, shut on days 0, 3 and 5 of 6."""
    return make_yard([make_work([way], **bounds)], days=6, shut=[0, 3, 5])


class Arguments(unittest.TestCase):
    def test_as_told(self):
        want = {
            "broken": "(yard, plan)",
            "end_of": "(yard, plan)",
            "table": "(yard, plan)",
            "moved": "(plan, kept)",
        }
        self.assertEqual({name: str(inspect.signature(getattr(plans_module, name))) for name in want}, want)

    def test_by_name(self):
        plan = [(3, 0), (0, 0), (0, 0)]
        self.assertEqual(broken(plan=plan, yard=YARD), ("stuff", 1, 0))
        self.assertEqual(end_of(plan=plan, yard=YARD), 6)
        self.assertEqual(table(plan=plan, yard=YARD)[0], [1, 1, 0, 1, 1, 1])
        self.assertEqual(moved(kept=(None, (1, 0), None), plan=plan), [1])


class Kept(unittest.TestCase):
    """Plans that keep all rules."""

    def test_ordinary(self):
        self.assertIsNone(broken(YARD, [(3, 0), (1, 0), (0, 0)]))
        self.assertIsNone(broken(YARD, [(1, 1), (4, 0), (0, 0)]))

    def test_no_works(self):
        for days in (1, 20):
            yard = make_yard([], days=days, stuffs=[[0] * days])
            self.assertIsNone(broken(yard, []))
            self.assertEqual(end_of(yard, []), 0)
            self.assertEqual(table(yard, []), [[0] * days])

    def test_no_stuffs(self):
        yard = make_yard([make_work([make_way(2)], high=10)] * 6)
        self.assertIsNone(broken(yard, [(8, 0)] * 6))
        self.assertEqual(table(yard, [(8, 0)] * 6), [])
        self.assertEqual(end_of(yard, [(8, 0)] * 5 + [(0, 0)]), 10)


class BrokenWork(unittest.TestCase):
    def test_bounds(self):
        yard = lone(make_way(1), low=1, high=4)
        for begin in (1, 2, 3):
            self.assertIsNone(broken(yard, [(begin, 0)]))
        for begin in (0, -1, 4, 5, 6, *BEYOND):
            self.assertEqual(broken(yard, [(begin, 0)]), ("work", 0))

    def test_ways(self):
        for way in (-1, -2, 2, 3, *BEYOND):
            self.assertEqual(broken(YARD, [(3, way), (1, 0), (0, 0)]), ("work", 0))
        for way in (-1, 1, *BEYOND):
            self.assertEqual(broken(YARD, [(3, 0), (1, 0), (0, way)]), ("work", 2))

    def test_shut_days(self):
        rest, go_on = lone(make_way(2, rests=1), high=6), lone(make_way(2), high=6)
        want = [("work", 0), None, None, ("work", 0), ("work", 0), ("work", 0)]
        self.assertEqual([broken(rest, [(day, 0)]) for day in range(6)], want)
        self.assertEqual([broken(go_on, [(day, 0)]) for day in range(6)], [None] * 5 + [("work", 0)])

    def test_the_first_of_several(self):
        self.assertEqual(broken(YARD, [(0, 0), (6, 0), (2, 0)]), ("work", 0))
        self.assertEqual(broken(YARD, [(1, 0), (5, 0), (2, 0)]), ("work", 1))
        self.assertEqual(broken(YARD, [(1, 0), (4, 0), (2, 0)]), ("work", 2))

    def test_ahead_of_ties_and_stuffs(self):
        yard = make_yard(WORKS, days=6, stuffs=[[0] * 6] * 2, ties=[make_tie(0, 1)])
        self.assertEqual(broken(yard, [(1, 0), (1, 0), (6, 0)]), ("work", 2))
        self.assertEqual(broken(yard, [(1, 0), (1, 0), (5, 0)]), ("tie", 0))


class BrokenTie(unittest.TestCase):
    def check(self, tie, plan, least):
        """The second work may begin on the least day or later, not ahead of it."""
        first, rest = plan[0], plan[1:]
        for begin in range(5):
            want = None if begin >= least else ("tie", 0)
            self.assertEqual(broken(tied(tie), [first, (begin, 0), *rest]), want, (tie, begin))

    def test_end(self):
        self.check(make_tie(0, 1), [(1, 1), (0, 0)], 4)
        self.check(make_tie(0, 1, gap=-1), [(1, 1), (0, 0)], 3)
        self.check(make_tie(0, 1, gap=-2), [(1, 1), (0, 0)], 2)
        self.check(make_tie(0, 1, gap=1), [(1, 1), (0, 0)], 5)
        self.check(make_tie(0, 1), [(1, 0), (0, 0)], 4)
        self.check(make_tie(2, 1, gap=2), [(1, 0), (1, 0)], 4)

    def test_start(self):
        self.check(make_tie(0, 1, kind=START), [(3, 0), (0, 0)], 3)
        self.check(make_tie(0, 1, kind=START, gap=1), [(3, 0), (0, 0)], 4)
        self.check(make_tie(0, 1, kind=START, gap=-2), [(3, 0), (0, 0)], 1)

    def test_gaps_at_the_edge(self):
        for kind in (START, END):
            self.check(make_tie(0, 1, kind=kind, gap=-20), [(3, 0), (0, 0)], 0)
            self.check(make_tie(0, 1, kind=kind, gap=20), [(1, 0), (0, 0)], 20)

    def test_gap_of_all_days(self):
        yard = make_yard([make_work([make_way(1)], high=20)] * 2, days=20, ties=[make_tie(0, 1, gap=18)])
        self.assertIsNone(broken(yard, [(0, 0), (19, 0)]))
        self.assertEqual(broken(yard, [(1, 0), (19, 0)]), ("tie", 0))

    def test_the_first_of_several(self):
        good, bad = make_tie(0, 1, gap=-20), make_tie(1, 0, gap=20)
        plan = [(3, 0), (1, 0), (0, 0)]
        self.assertEqual(broken(tied(good, bad, bad), plan), ("tie", 1))
        self.assertEqual(broken(tied(bad, good, bad), plan), ("tie", 0))
        self.assertEqual(broken(tied(*[good] * 11, bad), plan), ("tie", 11))
        self.assertIsNone(broken(tied(*[good] * 12), plan))

    def test_both_ways_round(self):
        ties = (make_tie(0, 1, kind=START), make_tie(1, 0, kind=START))
        self.assertIsNone(broken(tied(*ties), [(1, 0), (1, 0), (0, 0)]))
        self.assertEqual(broken(tied(*ties), [(1, 0), (0, 0), (0, 0)]), ("tie", 0))
        self.assertEqual(broken(tied(*ties), [(1, 0), (2, 0), (0, 0)]), ("tie", 1))

    def test_ahead_of_stuffs(self):
        yard = make_yard(WORKS, days=6, stuffs=[[0] * 6] * 2, ties=[make_tie(0, 1, gap=20)])
        self.assertEqual(broken(yard, [(1, 0), (0, 0), (0, 0)]), ("tie", 0))
        yard = make_yard(WORKS, days=6, stuffs=[[0] * 6] * 2, ties=[make_tie(0, 1, gap=-20)])
        self.assertEqual(broken(yard, [(1, 0), (0, 0), (0, 0)]), ("stuff", 0, 0))


class BrokenStuff(unittest.TestCase):
    def test_no_more_than_there_is(self):
        work = make_work([make_way(2, needs=[3])], high=3)
        for many, want in ((5, ("stuff", 0, 1)), (6, None), (9, None)):
            yard = make_yard([work, work], days=4, stuffs=[[9, many, 9, 9]])
            self.assertEqual(broken(yard, [(0, 0), (1, 0)]), want)

    def test_by_stuffs_then_days(self):
        way = make_way(3, needs=[1, 1, 1])
        for rows, want in (
            ([[1, 1, 0], [0, 0, 0], [1, 1, 1]], ("stuff", 0, 2)),
            ([[1, 1, 1], [1, 0, 0], [0, 1, 1]], ("stuff", 1, 1)),
            ([[1, 1, 1], [1, 1, 1], [0, 0, 0]], ("stuff", 2, 0)),
            ([[1, 1, 1], [1, 1, 1], [1, 1, 1]], None),
        ):
            yard = make_yard([make_work([way], high=1)], days=3, stuffs=rows)
            self.assertEqual(broken(yard, [(0, 0)]), want)

    def test_nothing_is_held_while_it_rests(self):
        for rests, want in ((1, None), (0, ("stuff", 0, 1))):
            works = [make_work([make_way(2, rests=rests, needs=[1])], high=1)]
            yard = make_yard(works, days=3, shut=[1], stuffs=[[1, 0, 1]])
            self.assertEqual(broken(yard, [(0, 0)]), want)

    def test_the_day_behind_the_end_is_free(self):
        work = make_work([make_way(2, needs=[9])], high=4)
        yard = make_yard([work, work], days=4, stuffs=[[9] * 4])
        self.assertIsNone(broken(yard, [(0, 0), (2, 0)]))
        self.assertEqual(broken(yard, [(1, 0), (2, 0)]), ("stuff", 0, 2))

    def test_six_works(self):
        work = make_work([make_way(1, needs=[9])], high=6)
        yard = make_yard([work] * 6, days=6, stuffs=[[9] * 6])
        self.assertIsNone(broken(yard, [(day, 0) for day in (5, 3, 1, 0, 2, 4)]))
        self.assertEqual(broken(yard, [(day, 0) for day in (5, 3, 1, 0, 2, 5)]), ("stuff", 0, 5))


class EndAndTable(unittest.TestCase):
    def test_greatest_end(self):
        self.assertEqual(end_of(YARD, [(1, 1), (0, 0), (0, 0)]), 4)
        self.assertEqual(end_of(YARD, [(1, 0), (4, 0), (0, 0)]), 6)
        self.assertEqual(end_of(YARD, [(1, 1), (0, 0), (5, 0)]), 6)

    def test_held_on_each_day(self):
        self.assertEqual(table(YARD, [(1, 1), (1, 0), (3, 0)]), [[0, 3, 1, 2, 0, 0], [0, 1, 1, 3, 0, 0]])
        self.assertEqual(table(YARD, [(1, 0), (1, 0), (1, 0)]), [[0, 2, 2, 1, 0, 0], [0, 6, 3, 2, 0, 0]])

    def test_also_where_ties_and_stuffs_are_broken(self):
        yard = make_yard(WORKS, days=6, stuffs=[[0] * 6] * 2, ties=[make_tie(0, 1, gap=20)])
        plan = [(1, 0), (0, 0), (0, 0)]
        self.assertEqual(end_of(yard, plan), 4)
        self.assertEqual(table(yard, plan), [[1, 2, 1, 1, 0, 0], [4, 3, 2, 2, 0, 0]])

    def test_each_list_is_a_new_one(self):
        plan = [(1, 1), (1, 0), (3, 0)]
        rows = table(YARD, plan)
        self.assertIs(type(rows), list)
        rows[0][0] = 99
        rows[1].clear()
        rows.pop()
        self.assertEqual(table(YARD, plan), [[0, 3, 1, 2, 0, 0], [0, 1, 1, 3, 0, 0]])
        bare = table(make_yard([], days=2, stuffs=[[1, 1], [1, 1]]), [])
        bare[0][0] = 7
        self.assertEqual(bare, [[7, 0], [0, 0]])

    def test_the_plan_stays_as_it_was(self):
        for plan in ([(1, 1), (1, 0), (3, 0)], [(0, 9), (1, 0), (3, 0)], [(1, 1)]):
            before = list(plan)
            for call in (broken, end_of, table):
                told(call, YARD, plan)
            moved(plan, ())
            self.assertEqual(plan, before)


class BadPlans(unittest.TestCase):
    def test_another_count(self):
        for count, at in ((0, 0), (1, 1), (2, 2), (4, 3), (5, 3), (30, 3)):
            for pair in ((3, 0), (FAR, -FAR)):
                for call in (broken, end_of, table):
                    want = ("BadPlan", {"at": at, "word": "badplan"})
                    self.assertEqual(told(call, YARD, [pair] * count), want)

    def test_another_count_without_works_and_with_six(self):
        want = ("BadPlan", {"at": 0, "word": "badplan"})
        self.assertEqual(told(broken, make_yard([]), [(0, 0)]), want)
        for count, at in ((5, 5), (7, 6)):
            want = ("BadPlan", {"at": at, "word": "badplan"})
            self.assertEqual(told(end_of, full_yard(), [(0, 1)] * count), want)

    def test_the_first_work_that_breaks(self):
        for plan, at in (
            ([(0, 0), (6, 0), (2, 0)], 0),
            ([(3, -1), (0, 0), (0, 0)], 0),
            ([(3, 2), (0, 0), (2, 0)], 0),
            ([(1, 0), (5, 0), (2, 0)], 1),
            ([(1, 0), (4, 0), (2, 0)], 2),
            ([(1, 0), (FAR, 0), (0, 0)], 1),
            ([(1, 0), (0, 0), (0, -FAR)], 2),
        ):
            for call in (end_of, table):
                self.assertEqual(told(call, YARD, plan), ("BadPlan", {"at": at, "word": "badplan"}))
            self.assertEqual(broken(YARD, plan), ("work", at))

    def test_the_count_goes_ahead(self):
        for call in (end_of, table):
            self.assertEqual(told(call, YARD, [(0, 0)] * 4), ("BadPlan", {"at": 3, "word": "badplan"}))


class Chance(unittest.TestCase):
    def test_against_a_plain_telling(self):
        seen = set()
        for seed in range(1500):
            yard = chance_yard(seed)
            chance = random.Random(-seed - 1)
            for _ in range(4):
                plan = chance_plan(chance, yard)
                want = plain_broken(yard, plan)
                self.assertEqual(broken(yard, plan), want)
                seen.add(want and want[0])
                if want is None or want[0] != "work":
                    self.assertEqual(end_of(yard, plan), plain_end(yard, plan))
                    self.assertEqual(table(yard, plan), plain_table(yard, plan))
        self.assertEqual(seen, {None, "work", "tie", "stuff"})


class Moved(unittest.TestCase):
    PLAN = [(1, 0), (2, 1), (3, 0)]

    def test_nothing_kept(self):
        self.assertEqual(moved(self.PLAN, ()), [])
        self.assertEqual(moved(self.PLAN, (None, None, None)), [])
        self.assertEqual(moved([], ()), [])

    def test_stays_with_just_this_pair(self):
        self.assertEqual(moved(self.PLAN, tuple(self.PLAN)), [])
        self.assertEqual(moved(self.PLAN, ((1, 0), None, (3, 0))), [])

    def test_moves_by_its_begin_or_its_way(self):
        self.assertEqual(moved(self.PLAN, ((2, 0), (2, 1), (3, 0))), [0])
        self.assertEqual(moved(self.PLAN, ((1, 0), (2, 0), (3, 0))), [1])
        self.assertEqual(moved(self.PLAN, ((1, 1), (1, 2), (0, 3))), [0, 1, 2])
        self.assertEqual(moved(self.PLAN, (None, (1, 2), None)), [1])
        self.assertEqual(moved(self.PLAN, (None, None, (0, 0))), [2])

    def test_nothing_is_looked_at_or_kept(self):
        self.assertEqual(moved([(FAR, -FAR)], ((FAR, -FAR),)), [])
        self.assertEqual(moved([(FAR, -FAR)], ((FAR, FAR),)), [0])
        out = moved(self.PLAN, ((9, 9), None, (9, 9)))
        out.append(5)
        self.assertEqual(moved(self.PLAN, ((9, 9), None, (9, 9))), [0, 2])


class CheckKept(unittest.TestCase):
    def check(self, kept, at):
        self.assertEqual(told(check_kept, YARD, kept), ("BadKept", {"at": at, "word": "badkept"}), kept)

    def test_good_ones(self):
        for kept in ((), (None,) * 3, ((0, 0), (5, 0), (2, 0)), ((5, 1), None, None)):
            self.assertIsNone(check_kept(YARD, kept))
        self.assertIsNone(check_kept(make_yard([]), ()))

    def test_days_and_ways(self):
        for day in (-1, 6, *BEYOND):
            self.check(((day, 0), None, None), 0)
            self.check((None, None, (day, 0)), 2)
        for way in (-1, 2, *BEYOND):
            self.check(((0, way), (0, 9), None), 0)
            self.check((None, (0, way), (9, 9)), 1)
        self.check((None, (0, 1), None), 1)

    def test_another_count(self):
        for count in (1, 2):
            self.check((None,) * count, count)
            self.check(((1, 0),) * count, count)
        for count in (4, 9):
            self.check((None,) * count, 3)
            self.check((*(None,) * 3, *((FAR, FAR),) * (count - 3)), 3)
        self.assertEqual(told(check_kept, make_yard([]), (None,)), ("BadKept", {"at": 0, "word": "badkept"}))

    def test_a_wrong_work_goes_ahead_of_the_count(self):
        self.check(((6, 0), None), 0)
        self.check((None, (0, 1)), 1)
        self.check((None, (0, 1), None, None), 1)
        self.check(((0, 0), (0, 0), (0, 1), None), 2)


if __name__ == "__main__":
    unittest.main()
