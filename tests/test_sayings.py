"""[9], [10] and the interface of hodman/sayings.py."""

import inspect
import itertools
import random
import unittest

import hodman.sayings as sayings_module
from hodman.sayings import holds, line, opposite
from hodman.yards import make_way, make_work, make_yard
from tests.helper import AGAINST, BEYOND, FAR, chance_ask, full_yard, plain_holds, small_yard, told

# Five days; the first work has two ways, the other one.
YARD = make_yard([make_work([make_way(1), make_way(2)], low=1, high=4), make_work([make_way(1)], high=5)], days=5)
NO_YARD = (0, (), (), (), ())
EVERY = [(word, work, day) for word in ("from", "ahead") for work in (0, 1) for day in range(6)]
EVERY += [(word, 0, way) for word in ("way", "not") for way in (0, 1)] + [("way", 1, 0), ("not", 1, 0)]
EVERY += [(word, work, 0) for word in ("stays", "moves") for work in (0, 1)]
WRONG = [(word, 0, day) for word in ("from", "ahead") for day in (-1, 6, *BEYOND)]
WRONG += [(word, 0, way) for word in ("way", "not") for way in (-1, 2, *BEYOND)] + [("way", 1, 1), ("not", 1, 1)]
WRONG += [(word, 0, number) for word in ("stays", "moves") for number in (-1, 1, *BEYOND)]
WRONG += [(word, work, 0) for word in AGAINST for work in (-1, 2, *BEYOND)]
WRONG += [(word, 0, 0) for word in ("", "From", "behind", "led", "from ", "stay")]
WRONG += [(), ("from",), ("from", 0), ("from", 0, 0, 0), ("stays", 0)]


class Arguments(unittest.TestCase):
    def test_as_told(self):
        want = {
            "opposite": "(yard, saying)",
            "line": "(yard, sayings)",
            "holds": "(yard, plan, sayings, *, kept=())",
        }
        self.assertEqual({name: str(inspect.signature(getattr(sayings_module, name))) for name in want}, want)

    def test_by_name(self):
        self.assertEqual(opposite(saying=("way", 0, 1), yard=YARD), ("not", 0, 1))
        self.assertEqual(line(sayings=[("way", 0, 1)], yard=YARD), (("way", 0, 1),))
        self.assertIs(holds(sayings=[("way", 0, 1)], plan=[(0, 1), (0, 0)], yard=YARD), True)


class Opposites(unittest.TestCase):
    def test_by_twos(self):
        for pair in (("from", "ahead"), ("way", "not"), ("stays", "moves")):
            self.assertEqual(opposite(YARD, (pair[0], 1, 0)), (pair[1], 1, 0))
            self.assertEqual(opposite(YARD, (pair[1], 1, 0)), (pair[0], 1, 0))

    def test_all_sayings_and_back(self):
        for saying in EVERY:
            word, work, number = saying
            self.assertEqual(opposite(YARD, saying), (AGAINST[word], work, number))
            self.assertEqual(opposite(YARD, opposite(YARD, saying)), saying)

    def test_days_from_none_to_all(self):
        for day in (0, 20):
            self.assertEqual(opposite(full_yard(), ("from", 5, day)), ("ahead", 5, day))
            self.assertEqual(opposite(full_yard(), ("ahead", 5, day)), ("from", 5, day))
        self.assertEqual(told(opposite, full_yard(), ("from", 5, 21))[0], "BadSaying")

    def test_what_is_none(self):
        for saying in WRONG:
            self.assertEqual(told(opposite, YARD, saying), ("BadSaying", {"at": 0, "word": "badsaying"}), saying)
        self.assertEqual(told(opposite, make_yard([]), ("from", 0, 0))[0], "BadSaying")


class Lines(unittest.TestCase):
    def test_rising_each_once(self):
        want = (("ahead", 0, 2), ("ahead", 0, 5), ("from", 0, 0), ("from", 1, 0), ("moves", 1, 0), ("way", 0, 0))
        for given in itertools.permutations(want):
            self.assertEqual(line(YARD, list(given)), want)
            self.assertEqual(line(YARD, [*given, *given[::-2]]), want)

    def test_empty(self):
        self.assertEqual(line(YARD, []), ())
        self.assertEqual(line(make_yard([]), []), ())

    def test_all_sayings(self):
        self.assertEqual(line(YARD, EVERY[::-1] + EVERY), tuple(sorted(EVERY)))
        self.assertEqual(line(YARD, line(YARD, EVERY)), tuple(sorted(EVERY)))

    def test_the_first_that_is_none(self):
        for saying in WRONG:
            for at in (0, 1, 3):
                given = [*EVERY[:at], saying, *EVERY, WRONG[0]]
                self.assertEqual(told(line, YARD, given), ("BadSaying", {"at": at, "word": "badsaying"}), saying)

    def test_the_place_is_that_of_what_is_handed_in(self):
        given = [("way", 0, 0), ("way", 0, 0), ("ahead", 0, -1)]
        self.assertEqual(told(line, YARD, given), ("BadSaying", {"at": 2, "word": "badsaying"}))

    def test_what_is_handed_in_stays(self):
        given = [("way", 0, 0), ("from", 1, 2), ("way", 0, 0)]
        out = line(YARD, given)
        self.assertIs(type(out), tuple)
        self.assertEqual(given, [("way", 0, 0), ("from", 1, 2), ("way", 0, 0)])
        given.clear()
        self.assertEqual(out, (("from", 1, 2), ("way", 0, 0)))


class Holds(unittest.TestCase):
    PLAN = [(2, 1), (4, 0)]

    def check(self, saying, want, **named):
        self.assertIs(holds(YARD, self.PLAN, [saying], **named), want, saying)

    def test_days(self):
        for day in range(6):
            self.check(("from", 0, day), day <= 2)
            self.check(("ahead", 0, day), day > 2)
            self.check(("from", 1, day), day <= 4)
            self.check(("ahead", 1, day), day > 4)

    def test_ways(self):
        self.check(("way", 0, 1), True)
        self.check(("way", 0, 0), False)
        self.check(("not", 0, 1), False)
        self.check(("not", 0, 0), True)

    def test_stays_and_moves(self):
        for pair, stays in (((2, 1), True), ((2, 0), False), ((1, 1), False), (None, False)):
            self.check(("stays", 0, 0), stays, kept=(pair, None))
            self.check(("moves", 0, 0), not stays, kept=(pair, None))
        for work in (0, 1):
            self.check(("stays", work, 0), False)
            self.check(("moves", work, 0), True)
            self.check(("moves", work, 0), True, kept=(None, None))

    def test_one_is_enough_and_the_empty_line_never_holds(self):
        good, bad = ("from", 0, 2), ("from", 0, 3)
        self.assertIs(holds(YARD, self.PLAN, [bad, bad, good]), True)
        self.assertIs(holds(YARD, self.PLAN, (bad, good)), True)
        self.assertIs(holds(YARD, self.PLAN, [bad, ("way", 0, 0)]), False)
        self.assertIs(holds(YARD, self.PLAN, []), False)
        self.assertIs(holds(YARD, self.PLAN, ()), False)
        self.assertIs(holds(make_yard([]), [], ()), False)

    def test_plans_of_any_numbers(self):
        for far in (-1, 5, 99, *BEYOND):
            plan = [(far, far), (0, 0)]
            self.assertIs(holds(YARD, plan, [("from", 0, 5)]), far >= 5)
            self.assertIs(holds(YARD, plan, [("ahead", 0, 0)]), far < 0)
            self.assertIs(holds(YARD, plan, [("way", 0, 0), ("way", 0, 1)]), False)
            self.assertIs(holds(YARD, plan, [("not", 0, 1)]), True)
            self.assertIs(holds(YARD, plan, [("stays", 0, 0)], kept=((1, 0), None)), False)

    def test_another_count_of_pairs(self):
        for count, at in ((0, 0), (1, 1), (3, 2), (9, 2)):
            for sayings in ([], [("from", 0, 0)], [WRONG[0]]):
                want = ("BadPlan", {"at": at, "word": "badplan"})
                self.assertEqual(told(holds, YARD, [(0, 0)] * count, sayings), want)

    def test_what_is_no_saying(self):
        for saying in WRONG:
            for at in (0, 2):
                given = [*EVERY[:at], saying, WRONG[0], *EVERY]
                want = ("BadSaying", {"at": at, "word": "badsaying"})
                self.assertEqual(told(holds, YARD, [(FAR, -FAR), (0, 0)], given), want, saying)

    def test_opposites_hold_where_these_do_not(self):
        for seed in range(60):
            yard, chance = small_yard(seed), random.Random(seed)
            if not yard[3]:
                continue
            kept = chance_ask(chance, yard)["kept"]
            plan = [(chance.randint(-1, 6), chance.randint(-1, 2)) for _ in yard[3]]
            plan = [pair if pair and chance.random() < 0.5 else got for pair, got in zip(kept or plan, plan)]
            for work, (_, _, ways) in enumerate(yard[3]):
                every = [("from", work, day) for day in range(yard[0] + 1)]
                every += [("way", work, way) for way in range(len(ways))] + [("stays", work, 0)]
                for saying in every:
                    against = opposite(yard, saying)
                    want = plain_holds(plan, kept, saying)
                    self.assertIs(holds(yard, plan, [saying], kept=kept), want)
                    self.assertIs(holds(yard, plan, [against], kept=kept), not want)
                    self.assertIs(holds(yard, plan, line(yard, [against, saying]), kept=kept), True)


class Yards(unittest.TestCase):
    def test_ahead_of_all_else(self):
        self.assertEqual(told(opposite, NO_YARD, WRONG[0])[0], "BadYard")
        self.assertEqual(told(line, NO_YARD, [WRONG[0]])[0], "BadYard")
        self.assertEqual(told(holds, NO_YARD, [(0, 0)], [WRONG[0]])[0], "BadYard")
        for call, things in ((opposite, [("from", 0, 0)]), (line, [[]]), (holds, [[], []])):
            self.assertEqual(told(call, NO_YARD, *things)[0], "BadYard")


if __name__ == "__main__":
    unittest.main()
