"""[2], [3], [4], [5] and the interface of hodman/yards.py."""

import inspect
import unittest

import hodman.yards as yards
from hodman.days import finish, holding, working
from hodman.errors import BadYard
from hodman.plans import broken, end_of, table
from hodman.yards import is_yard, make_tie, make_way, make_work, make_yard
from tests.helper import BEYOND, FAR, chance_yard, full_yard, refusal

DAYS, SHUT, STUFFS, WORKS, TIES = range(5)
PARTS = ("days", "shut", "stuffs", "works", "ties")
GOOD = (
    6,
    (0, 3, 5),
    ((9, 0, 1, 2, 3, 4), (1, 1, 1, 1, 1, 1)),
    ((0, 6, ((2, 1, (1, 0)), (9, 0, (0, 9)))), (2, 3, ((1, 0, (0, 0)),)), (5, 6, ((1, 1, (9, 9)),))),
    ((1, 0, 1, -20), (0, 2, 0, 20), (1, 1, 2, 0)),
)


def with_part(part, worth, yard=GOOD):
    """The yard with another thing as that part."""
    return (*yard[:part], worth, *yard[part + 1:])


def with_item(part, at, worth, yard=GOOD):
    """The yard with another thing at a place of a part."""
    row = yard[part]
    return with_part(part, (*row[:at], worth, *row[at + 1:]), yard)


def with_work(at, low=0, high=6, ways=((1, 0, (0, 0)),)):
    return with_item(WORKS, at, (low, high, ways))


def with_way(at, long=1, rests=0, needs=(0, 0), ahead=()):
    return with_work(at, ways=(*ahead, (long, rests, needs)))


class Constants(unittest.TestCase):
    def test_as_told(self):
        want = {
            "MOST_DAYS": 20, "MOST_STUFFS": 3, "MOST_WORKS": 6, "MOST_WAYS": 3, "MOST_TIES": 12,
            "MOST_LONG": 9, "MOST_MANY": 9, "MOST_GAP": 20, "START": 0, "END": 1,
        }
        self.assertEqual({name: getattr(yards, name) for name in want}, want)


class Arguments(unittest.TestCase):
    def test_as_told(self):
        want = {
            "is_yard": "(yard)",
            "make_way": "(long, *, rests=0, needs=())",
            "make_work": "(ways, *, low=0, high)",
            "make_tie": "(one, other, *, gap=0, kind=1)",
            "make_yard": "(works, *, days=10, shut=(), stuffs=(), ties=())",
        }
        self.assertEqual({name: str(inspect.signature(getattr(yards, name))) for name in want}, want)


class Making(unittest.TestCase):
    def test_way(self):
        self.assertEqual(make_way(3), (3, 0, ()))
        self.assertEqual(make_way(3, rests=1, needs=(1, 2)), (3, 1, (1, 2)))
        self.assertEqual(make_way(long=3, needs=[4, 5]), (3, 0, (4, 5)))

    def test_work(self):
        way = make_way(3)
        self.assertEqual(make_work((way,), high=4), (0, 4, (way,)))
        self.assertEqual(make_work([way, way], low=2, high=4), (2, 4, (way, way)))
        self.assertEqual(make_work([(3, 0, [1])], high=4), (0, 4, ((3, 0, (1,)),)))

    def test_tie(self):
        self.assertEqual(make_tie(0, 1), (1, 0, 1, 0))
        self.assertEqual(make_tie(0, 1, gap=-3, kind=yards.START), (0, 0, 1, -3))
        self.assertEqual(make_tie(other=0, one=1), (1, 1, 0, 0))

    def test_nothing_looked_at(self):
        for far in BEYOND:
            self.assertEqual(make_way(far, rests=far, needs=[far] * 5), (far, far, (far,) * 5))
            self.assertEqual(make_work([], low=far, high=-far), (far, -far, ()))
            self.assertEqual(make_tie(far, far, gap=far, kind=far), (far, far, far, far))

    def test_yard_by_defaults(self):
        self.assertEqual(make_yard([]), (10, (), (), (), ()))
        self.assertEqual(make_yard(works=()), (10, (), (), (), ()))

    def test_yard_of_lists_and_of_tuples(self):
        days, shut, stuffs, works, ties = GOOD
        self.assertEqual(make_yard(works, days=days, shut=shut, stuffs=stuffs, ties=ties), GOOD)
        loose = [(low, high, [(long, rests, list(needs)) for long, rests, needs in ways])
                 for low, high, ways in works]
        rows = [list(row) for row in stuffs]
        yard = make_yard(loose, days=days, shut=list(shut), stuffs=rows, ties=list(ties))
        self.assertEqual(yard, GOOD)
        self.assert_tuples(yard)

    def assert_tuples(self, thing):
        if not isinstance(thing, int):
            self.assertIs(type(thing), tuple)
            for part in thing:
                self.assert_tuples(part)

    def test_each_default_of_the_yard(self):
        work = make_work([make_way(1)], high=10)
        self.assertEqual(make_yard([work, work], ties=[make_tie(0, 1)]), (10, (), (), (work, work), ((1, 0, 1, 0),)))
        self.assertEqual(make_yard([], days=2, stuffs=[[1, 2]]), (2, (), ((1, 2),), (), ()))
        self.assertEqual(make_yard([], shut=[9]), (10, (9,), (), (), ()))

    def test_lists_handed_in_stay_and_are_not_kept(self):
        needs, row, shut = [2], [4] * 10, [1, 2]
        ways = [make_way(2, needs=needs)]
        works = [make_work(ways, high=10), (0, 10, [(1, 0, needs)])]
        stuffs, ties = [row], [make_tie(0, 1)]
        yard = make_yard(works, shut=shut, stuffs=stuffs, ties=ties)
        want = (10, (1, 2), ((4,) * 10,), ((0, 10, ((2, 0, (2,)),)), (0, 10, ((1, 0, (2,)),))), ((1, 0, 1, 0),))
        self.assertEqual(yard, want)
        self.assertEqual((needs, row, shut, stuffs, ties), ([2], [4] * 10, [1, 2], [row], [(1, 0, 1, 0)]))
        self.assertEqual(ways, [(2, 0, (2,))])
        self.assertEqual(works, [(0, 10, ((2, 0, (2,)),)), (0, 10, [(1, 0, [2])])])
        for thing in (needs, row, shut, ways, works, stuffs, ties):
            thing.clear()
        self.assertEqual(yard, want)

    def test_make_yard_refuses_and_leaves_lists(self):
        row = [1, 2, 3]
        stuffs = [[1, 2], row]
        error = refusal(make_yard, [], days=2, stuffs=stuffs)
        self.assertEqual((error.part, error.at), ("stuffs", 1))
        self.assertEqual(stuffs, [[1, 2], [1, 2, 3]])

    def test_make_yard_goes_by_the_parts_not_by_its_arguments(self):
        bad = {"days": FAR, "shut": [-1], "stuffs": [[10]], "ties": [(2, 0, 0, 0)]}
        for part in ("days", "shut", "stuffs"):
            self.assertEqual(refusal(make_yard, [()], **bad).part, part)
            del bad[part]
        self.assertEqual(refusal(make_yard, [()], **bad).part, "works")
        self.assertEqual(refusal(make_yard, [], **bad).part, "ties")


class Good(unittest.TestCase):
    def check(self, yard):
        self.assertIs(is_yard(yard), True)
        days, shut, stuffs, works, ties = yard
        self.assertEqual(make_yard(works, days=days, shut=shut, stuffs=stuffs, ties=ties), yard)

    def test_ordinary(self):
        self.check(GOOD)

    def test_least_and_most(self):
        self.check((1, (), (), (), ()))
        self.check((1, (0,), ((0,), (9,)), ((0, 1, ((1, 0, (0, 9)),)),), ()))
        self.check((20, (), (), (), ()))
        self.check(full_yard())

    def test_works_without_stuffs_and_stuffs_without_works(self):
        self.check((3, (1,), (), ((2, 3, ((9, 1, ()),)),), ()))
        self.check((3, (), ((1, 2, 3),) * 3, (), ()))

    def test_edges_of_numbers(self):
        for worth in ((0, 1), (5, 6), (0, 6)):
            self.check(with_work(1, *worth))
        for long in (1, 9):
            self.check(with_way(1, long=long))
        for rests in (0, 1):
            self.check(with_way(1, rests=rests))
        for needs in ((0, 9), (9, 0)):
            self.check(with_way(1, needs=needs))
        for tie in ((0, 0, 1, -20), (1, 2, 0, 20), (1, 1, 0, 0)):
            self.check(with_item(TIES, 2, tie))

    def test_ties_more_than_once(self):
        self.check(with_part(TIES, ((1, 0, 1, 0),) * 12))

    def test_by_chance(self):
        for seed in range(300):
            self.check(chance_yard(seed))


class Refused(unittest.TestCase):
    def check(self, yard, part, at):
        """Each function that is handed a yard refuses it, whatever else is handed in."""
        days, shut, stuffs, works, ties = yard
        self.assertIs(is_yard(yard), False, yard)
        errors = [
            refusal(make_yard, works, days=days, shut=shut, stuffs=stuffs, ties=ties),
            refusal(working, yard, FAR, FAR, FAR),
            refusal(finish, yard, FAR, -FAR, day=FAR),
            refusal(holding, yard, -1, FAR, FAR, FAR, first=FAR, past=-FAR),
            refusal(broken, yard, [(0, 0)] * 9),
            refusal(end_of, yard, [(0, 0)] * 9),
            refusal(table, yard, [(0, 0)] * 9),
        ]
        for error in errors:
            self.assertIs(type(error), BadYard, yard)
            self.assertEqual((error.part, error.at, error.word), (part, at, "badyard"), yard)

    def test_days(self):
        for days in (0, -1, 21, *BEYOND):
            self.check((days, (), (), (), ()), "days", 0)

    def test_shut_beyond(self):
        for day in (-1, 6, *BEYOND):
            self.check(with_part(SHUT, (day,)), "shut", 0)
        for day in (6, FAR):
            self.check(with_part(SHUT, (0, 5, day)), "shut", 2)

    def test_shut_that_do_not_rise(self):
        self.check(with_part(SHUT, (2, 2)), "shut", 1)
        self.check(with_part(SHUT, (0, 3, 2)), "shut", 2)
        self.check(with_part(SHUT, (5, 3, 4)), "shut", 1)
        self.check(with_part(SHUT, (0, 1, 1, -1)), "shut", 2)
        self.check(with_part(SHUT, (0, 1, 2, 3, 4, 5, 5)), "shut", 6)

    def test_shut_of_one_day(self):
        self.check((1, (0, 0), (), (), ()), "shut", 1)
        self.check((1, (1,), (), (), ()), "shut", 0)

    def test_stuffs_with_another_count(self):
        for row in ((), (1,) * 5, (1,) * 7):
            self.check(with_item(STUFFS, 0, row), "stuffs", 0)
            self.check(with_item(STUFFS, 1, row), "stuffs", 1)

    def test_stuffs_with_numbers_beyond(self):
        for many in (-1, 10, *BEYOND):
            for day in (0, 3, 5):
                row = (*(1,) * day, many, *(1,) * (5 - day))
                self.check(with_item(STUFFS, 1, row), "stuffs", 1)

    def test_stuffs_too_many(self):
        self.check((6, (), ((1,) * 6,) * 4, (), ()), "stuffs", 3)
        self.check((6, (), ((1,) * 6,) * 9, (), ()), "stuffs", 3)
        self.check((6, (), ((1,) * 6, (1,), (1,) * 6, (1,) * 6), (), ()), "stuffs", 1)
        self.check((6, (), ((1,) * 6, (1,) * 6, (1,) * 6, (1,)), (), ()), "stuffs", 3)

    def test_work_bounds(self):
        bad = ((-1, 3), (3, 3), (4, 3), (0, 0), (6, 6), (0, 7), (6, 7), (0, FAR), (-FAR, 3), (FAR, FAR + 1))
        for low, high in bad:
            for at in (0, 1, 2):
                self.check(with_work(at, low, high), "works", at)

    def test_work_with_no_way_and_with_too_many(self):
        way = (1, 0, (0, 0))
        self.check(with_work(0, ways=()), "works", 0)
        self.check(with_work(1, ways=(way,) * 4), "works", 1)
        self.check(with_work(2, ways=(way,) * 7), "works", 2)
        self.assertTrue(is_yard(with_work(2, ways=(way,) * 3)))

    def test_work_or_way_or_tie_with_another_count_of_things(self):
        for work in ((), (0,), (0, 1), (0, 1, ((1, 0, (0, 0)),), 0)):
            self.check(with_item(WORKS, 1, work), "works", 1)
        for way in ((), (1,), (1, 0), (1, 0, (0, 0), 0)):
            self.check(with_work(1, ways=(way,)), "works", 1)
        for tie in ((), (1, 0, 1), (1, 0, 1, 0, 0)):
            self.check(with_item(TIES, 1, tie), "ties", 1)

    def test_ways(self):
        good = (1, 0, (0, 0))
        for ahead in ((), (good,), (good, good)):
            for long in (0, -1, 10, *BEYOND):
                self.check(with_way(1, long=long, ahead=ahead), "works", 1)
            for rests in (-1, 2, *BEYOND):
                self.check(with_way(2, rests=rests, ahead=ahead), "works", 2)
            for needs in ((), (0,), (0, 0, 0), (0, 10), (10, 0), (-1, 0), (0, -1), (FAR, 0), (0, -FAR)):
                self.check(with_way(0, needs=needs, ahead=ahead), "works", 0)

    def test_works_too_many(self):
        work = (0, 1, ((1, 0, ()),))
        self.check((6, (), (), (work,) * 7, ()), "works", 6)
        self.check((6, (), (), (work,) * 9, ()), "works", 6)
        self.check((6, (), (), (*(work,) * 5, (), work), ()), "works", 5)
        self.assertTrue(is_yard((6, (), (), (work,) * 6, ())))

    def test_ties(self):
        bad = [(kind, 0, 1, 0) for kind in (-1, 2, *BEYOND)]
        bad += [(1, one, 1, 0) for one in (-1, 3, *BEYOND)]
        bad += [(0, 1, other, 0) for other in (-1, 3, *BEYOND)]
        bad += [(1, 0, 0, 0), (0, 2, 2, 1)]
        bad += [(1, 0, 1, gap) for gap in (-21, 21, *BEYOND)]
        for tie in bad:
            for at in (0, 1, 2):
                self.check(with_item(TIES, at, tie), "ties", at)

    def test_ties_too_many(self):
        self.check(with_part(TIES, ((1, 0, 1, 0),) * 13), "ties", 12)
        self.check(with_part(TIES, ((1, 0, 1, 0),) * 20), "ties", 12)
        self.check(with_part(TIES, (*((1, 0, 1, 0),) * 11, (2, 0, 1, 0), (1, 0, 1, 0))), "ties", 11)

    def test_ties_without_works(self):
        self.check((6, (), (), (), ((1, 0, 1, 0),)), "ties", 0)
        self.check((6, (), (), ((0, 1, ((1, 0, ()),)),), ((1, 0, 1, 0),)), "ties", 0)

    def test_the_first_place_of_several(self):
        self.check(with_part(SHUT, (0, 9, -1)), "shut", 1)
        self.check(with_part(STUFFS, ((1,) * 6, (1,), (1,))), "stuffs", 1)
        works = (GOOD[WORKS][0], (3, 2, ()), (5, 4, ()))
        self.check(with_part(WORKS, works), "works", 1)
        self.check(with_part(TIES, ((1, 0, 1, 0), (3, 0, 1, 0), (1, 0, 0, 0))), "ties", 1)

    def test_the_first_part_of_several(self):
        bad = (21, (0, 0), ((1,) * 6, (1,)), ((0, 7, ()),), ((9, 0, 0, 99),))
        ats = (0, 1, 1, 0, 0)
        yard = GOOD
        for part in (TIES, WORKS, STUFFS, SHUT, DAYS):
            yard = with_part(part, bad[part], yard)
            self.check(yard, PARTS[part], ats[part])

    def test_parts_measured_by_others(self):
        self.check(with_part(DAYS, 5), "shut", 2)
        self.check(with_part(DAYS, 7), "stuffs", 0)
        self.check(with_part(STUFFS, ()), "works", 0)
        self.check(with_part(WORKS, GOOD[WORKS][:2]), "ties", 1)


if __name__ == "__main__":
    unittest.main()
