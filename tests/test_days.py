"""[6] and the interface of hodman/days.py."""

import inspect
import unittest

import hodman.days as days_module
from hodman.days import finish, holding, working
from hodman.yards import make_way, make_work, make_yard
from tests.helper import BEYOND, FAR, chance_yard, full_yard, plain_days, told

# Shut at the beginning, in the middle and at the end.
SHUT = (0, 3, 4, 9)
YARD = make_yard(
    [
        make_work([make_way(2, needs=(2, 0)), make_way(2, rests=1, needs=(1, 3)), make_way(9, needs=(1, 9))], high=10),
        make_work([make_way(6, rests=1, needs=(9, 1)), make_way(7, rests=1, needs=(1, 1))], low=4, high=5),
    ],
    shut=SHUT,
    stuffs=[[0] * 10, [9] * 10],
)


class Arguments(unittest.TestCase):
    def test_as_told(self):
        want = {
            "working": "(yard, work, way, begin)",
            "finish": "(yard, work, way, *, day=0)",
            "holding": "(yard, work, way, begin, stuff, *, first=0, past=None)",
        }
        self.assertEqual({name: str(inspect.signature(getattr(days_module, name))) for name in want}, want)

    def test_by_name(self):
        self.assertEqual(working(begin=1, way=0, work=0, yard=YARD), [1, 2])
        self.assertEqual(finish(way=0, work=0, day=2, yard=YARD), 4)
        self.assertEqual(holding(stuff=0, begin=1, way=0, work=0, past=2, first=1, yard=YARD), 2)


class Working(unittest.TestCase):
    def test_without_rest_shut_days_count_as_others(self):
        self.assertEqual(working(YARD, 0, 0, 0), [0, 1])
        self.assertEqual(working(YARD, 0, 0, 3), [3, 4])
        self.assertEqual(working(YARD, 0, 0, 8), [8, 9])

    def test_with_rest_shut_days_are_passed_over(self):
        self.assertEqual(working(YARD, 0, 1, 1), [1, 2])
        self.assertEqual(working(YARD, 0, 1, 2), [2, 5])
        self.assertEqual(working(YARD, 0, 1, 7), [7, 8])
        self.assertEqual(working(YARD, 1, 0, 1), [1, 2, 5, 6, 7, 8])

    def test_with_rest_it_cannot_begin_on_a_shut_day(self):
        for day in SHUT:
            self.assertIsNone(working(YARD, 0, 1, day))

    def test_too_few_days_left(self):
        self.assertIsNone(working(YARD, 0, 0, 9))
        self.assertIsNone(working(YARD, 0, 1, 8))
        self.assertEqual(working(YARD, 0, 2, 0), list(range(9)))
        self.assertEqual(working(YARD, 0, 2, 1), list(range(1, 10)))
        self.assertIsNone(working(YARD, 0, 2, 2))
        for day in range(10):
            self.assertIsNone(working(YARD, 1, 1, day))

    def test_own_bounds_are_not_looked_at(self):
        self.assertEqual(YARD[3][1][:2], (4, 5))
        self.assertEqual(working(YARD, 1, 0, 1), [1, 2, 5, 6, 7, 8])

    def test_one_day(self):
        ways = [make_way(1), make_way(1, rests=1), make_way(2)]
        unshut = make_yard([make_work(ways, high=1)], days=1)
        self.assertEqual([working(unshut, 0, way, 0) for way in range(3)], [[0], [0], None])
        shut = make_yard([make_work(ways, high=1)], days=1, shut=[0])
        self.assertEqual([working(shut, 0, way, 0) for way in range(3)], [[0], None, None])

    def test_all_days_shut(self):
        yard = full_yard()
        self.assertEqual([working(yard, 5, 0, day) for day in range(20)], [None] * 20)
        self.assertEqual(working(yard, 5, 1, 19), [19])
        self.assertEqual(working(yard, 5, 2, 18), [18, 19])
        self.assertIsNone(working(yard, 5, 2, 19))

    def test_each_list_is_a_new_one(self):
        going = working(YARD, 0, 1, 2)
        self.assertIs(type(going), list)
        going.append(99)
        self.assertEqual(working(YARD, 0, 1, 2), [2, 5])

    def test_by_chance(self):
        for seed in range(250):
            yard = chance_yard(seed)
            for work, (_, _, ways) in enumerate(yard[3]):
                for way in range(len(ways)):
                    for day in range(yard[0]):
                        self.assertEqual(working(yard, work, way, day), plain_days(yard, work, way, day))


class Finish(unittest.TestCase):
    def test_without_rest(self):
        self.assertEqual(finish(YARD, 0, 0), 2)
        self.assertEqual(finish(YARD, 0, 0, day=3), 5)
        self.assertEqual(finish(YARD, 0, 0, day=8), 10)
        self.assertIsNone(finish(YARD, 0, 0, day=9))

    def test_with_rest_a_later_day_may_be_taken(self):
        self.assertEqual(finish(YARD, 0, 1), 3)
        self.assertEqual(finish(YARD, 0, 1, day=2), 6)
        self.assertEqual(finish(YARD, 0, 1, day=3), 7)
        self.assertEqual(finish(YARD, 0, 1, day=7), 9)
        self.assertIsNone(finish(YARD, 0, 1, day=8))

    def test_never(self):
        self.assertEqual(finish(YARD, 1, 0), 9)
        self.assertIsNone(finish(YARD, 1, 1))

    def test_own_bounds_are_not_looked_at(self):
        self.assertEqual(finish(YARD, 1, 0, day=1), 9)

    def test_by_chance(self):
        for seed in range(250):
            yard = chance_yard(seed)
            for work, (_, _, ways) in enumerate(yard[3]):
                for way in range(len(ways)):
                    goings = [plain_days(yard, work, way, day) for day in range(yard[0])]
                    for day in range(yard[0]):
                        ends = [going[-1] + 1 for going in goings[day:] if going is not None]
                        self.assertEqual(finish(yard, work, way, day=day), min(ends, default=None))


class Holding(unittest.TestCase):
    def test_over_all_days(self):
        self.assertEqual(holding(YARD, 0, 0, 0, 0), 4)
        self.assertEqual(holding(YARD, 0, 0, 0, 1), 0)
        self.assertEqual(holding(YARD, 0, 1, 2, 1), 6)
        self.assertEqual(holding(YARD, 1, 0, 1, 0), 54)

    def test_more_than_there_is(self):
        self.assertEqual(YARD[2][0], (0,) * 10)
        self.assertEqual(holding(YARD, 0, 2, 0, 0), 9)

    def test_only_days_on_which_it_goes_on(self):
        self.assertEqual(holding(YARD, 0, 1, 2, 1, first=3, past=5), 0)
        self.assertEqual(holding(YARD, 0, 1, 2, 1, first=2, past=5), 3)
        self.assertEqual(holding(YARD, 0, 1, 2, 1, first=3, past=6), 3)
        self.assertEqual(holding(YARD, 0, 0, 2, 0, first=3, past=4), 2)

    def test_first_or_past_alone(self):
        self.assertEqual(holding(YARD, 0, 2, 0, 1, first=3), 54)
        self.assertEqual(holding(YARD, 0, 2, 0, 1, past=3), 27)
        self.assertEqual(holding(YARD, 0, 2, 0, 1, first=3, past=None), 54)

    def test_empty_stretches(self):
        for first, past in ((3, 3), (4, 3), (FAR, -FAR), (0, 0), (10, 10), (-5, 0), (0, -FAR)):
            self.assertEqual(holding(YARD, 0, 2, 0, 1, first=first, past=past), 0)
        self.assertEqual(holding(YARD, 0, 2, 0, 1, first=10), 0)
        self.assertEqual(holding(YARD, 0, 2, 0, 1, first=FAR), 0)

    def test_stretches_beyond_the_days(self):
        self.assertEqual(holding(YARD, 0, 2, 0, 1, first=-3, past=1), 9)
        self.assertEqual(holding(YARD, 0, 2, 0, 1, first=-FAR, past=FAR), 81)
        self.assertEqual(holding(YARD, 0, 2, 1, 1, first=9, past=99), 9)
        self.assertEqual(holding(YARD, 0, 2, 1, 1, first=-1, past=FAR), 81)

    def test_where_it_cannot_begin(self):
        self.assertIsNone(holding(YARD, 0, 1, 3, 0))
        self.assertIsNone(holding(YARD, 0, 0, 9, 0))
        self.assertIsNone(holding(YARD, 0, 0, 9, 1, first=3, past=3))

    def test_three_stuffs(self):
        yard = full_yard()
        self.assertEqual([holding(yard, 0, 2, 0, stuff) for stuff in range(3)], [2, 4, 6])

    def test_by_chance(self):
        for seed in range(120):
            yard = chance_yard(seed)
            for work, (_, _, ways) in enumerate(yard[3]):
                for way in range(len(ways)):
                    for day in range(yard[0]):
                        self.check(yard, work, way, day)

    def check(self, yard, work, way, day):
        going = plain_days(yard, work, way, day)
        for stuff in range(len(yard[2])):
            for first, past in ((0, yard[0]), (1, 4), (-2, 3), (3, 2), (2, 40)):
                want = None
                if going is not None:
                    want = sum([yard[3][work][2][way][2][stuff] for at in going if at in range(first, past)])
                self.assertEqual(holding(yard, work, way, day, stuff, first=first, past=past), want)


class Refused(unittest.TestCase):
    def check(self, want, work, way, day):
        """The same refusal by each function, whatever stands behind what is refused."""
        self.assertEqual(told(working, YARD, work, way, day), want)
        self.assertEqual(told(finish, YARD, work, way, day=day), want)
        for stuff in (0, 2, -1, *BEYOND):
            self.assertEqual(told(holding, YARD, work, way, day, stuff, first=FAR, past=-FAR), want)

    def test_work(self):
        for work in (-1, -2, 2, 6, *BEYOND):
            want = ("BadWork", {"work": work, "word": "badwork"})
            for way in (0, -1, 3, *BEYOND):
                for day in (0, -1, 10, *BEYOND):
                    self.check(want, work, way, day)

    def test_way(self):
        for work, way in ((0, -1), (0, 3), (1, 2), (1, -2), (0, FAR), (1, -FAR)):
            want = ("BadWay", {"way": way, "word": "badway"})
            for day in (0, -1, 10, *BEYOND):
                self.check(want, work, way, day)

    def test_day(self):
        for day in (-1, 10, 20, *BEYOND):
            self.check(("BadDay", {"day": day, "word": "badday"}), 0, 0, day)

    def test_stuff(self):
        for stuff in (-1, -2, 2, 3, *BEYOND):
            want = ("BadStuff", {"stuff": stuff, "word": "badstuff"})
            self.assertEqual(told(holding, YARD, 0, 0, 0, stuff), want)
            self.assertEqual(told(holding, YARD, 0, 1, 3, stuff, first=4, past=2), want)

    def test_no_works_and_no_stuffs(self):
        bare = make_yard([])
        self.assertEqual(told(working, bare, 0, 0, 0), ("BadWork", {"work": 0, "word": "badwork"}))
        self.assertEqual(told(finish, bare, 0, 0), ("BadWork", {"work": 0, "word": "badwork"}))
        yard = make_yard([make_work([make_way(1)], high=1)])
        self.assertEqual(told(holding, yard, 0, 0, 0, 0), ("BadStuff", {"stuff": 0, "word": "badstuff"}))

    def test_the_last_of_each_is_taken(self):
        self.assertEqual(working(YARD, 1, 1, 9), None)
        self.assertEqual(finish(YARD, 1, 1, day=9), None)
        self.assertEqual(holding(YARD, 1, 1, 9, 1), None)


if __name__ == "__main__":
    unittest.main()
