"""The interface of hodman/book.py, with [1] to [4], [15] and [16] as a book tells them."""

import copy
import inspect
import itertools
import unittest

from hodman.book import Book
from hodman.judge import shows
from tests.helper import BEYOND, FAR, PlainFacts, Refused, all_of, answer_faults, answers_of, kept_of_book, refusal, told

BAD_DEED = ("BadDeed", {"word": "baddeed"})
NOTHING_LEFT = ("NothingLeft", {"word": "nothingleft"})
ONE_WAY = ((1, 0, ()),)
EVERY = (
    ("stuff", "wood", 3), ("stock", "wood", 0, 1), ("gone", "wood"), ("work", "ox", ONE_WAY), ("drop", "ox"),
    ("tie", 1, "ox", "wall", 0), ("cut", 1), ("shut", 0), ("unshut", 0), ("wait", "ox", 0), ("begun", "ox", 0),
    ("any", "ox"), ("keep",), ("forget",),
)
# Two stuffs, three works, two ties, of which the first was cut, and a shut day.
SOME = (
    ("stuff", "wood", 3), ("stuff", "ox", 2), ("work", "ox", ((2, 1, (("ox", 1), ("wood", 2))), (3, 0, ()))),
    ("work", "wall", ((1, 0, (("wood", 2),)),)), ("work", "a", ONE_WAY), ("tie", 1, "ox", "wall", 0),
    ("tie", 0, "ox", "a", -1), ("tie", 0, "a", "wall", -20), ("cut", 1), ("shut", 1),
)
FULL = (
    *[("stuff", name, 9) for name in ("a", "b", "abcdefgh")],
    *[("work", name, ((1, 0, (("a", 1),)),)) for name in ("a", "b", "c", "d", "e", "abcdefgh")],
    *[("tie", at % 2, "a", "b", -20) for at in range(12)],
)


def book_of(deeds, days=5):
    book = Book(days=days)
    for deed in deeds:
        book.do(deed)
    return book


def facts_of(deeds, days=5):
    facts = PlainFacts(days)
    for deed in deeds:
        facts.do(deed, None)
    return facts


def state(book):
    """All of a book that can be told without changing it, what can be done again too."""
    other = book.twin()
    undone = []
    while refusal(other.redo) is None:
        undone.append((other.steps()[-1], all_of(other)))
    return (all_of(book), answers_of(book), book.steps(), undone, book.busy(), len(book), repr(book))


class Case(unittest.TestCase):
    def refuses(self, book, deed, refused, **fields):
        """The deed is refused so by do, by take, and at each place of several; nothing is changed by this."""
        before, copied = state(book), copy.deepcopy(deed)
        want = (refused, {**fields, "word": refused.lower()})
        self.assertEqual(told(book.do, deed), want, deed)
        self.assertEqual(told(book.take, [deed]), want, deed)
        self.assertEqual(told(book.all_or_none, [deed]), ("Broken", {"at": 0, "word": "broken"}))
        error = refusal(book.all_or_none, [("shut", 0), ("forget",), deed, ("shut", 1)])
        self.assertEqual((error.word, error.at, error.__cause__.__class__.__name__), ("broken", 2, refused))
        self.assertEqual({**vars(error.__cause__)}, want[1])
        self.assertEqual(state(book), before)
        self.assertEqual(deed, copied)


class Arguments(Case):
    def test_as_told(self):
        self.assertEqual(str(inspect.signature(Book)), "(*, days=10)")
        for name, things in (
            ("do", "(self, deed)"), ("all_or_none", "(self, deeds)"), ("take", "(self, deeds)"), ("busy", "(self)"),
            ("undo", "(self)"), ("redo", "(self)"), ("steps", "(self)"), ("twin", "(self)"), ("days", "(self)"),
            ("shut", "(self)"), ("stuffs", "(self)"), ("works", "(self)"), ("ties", "(self)"), ("kept", "(self)"),
            ("yard", "(self)"), ("plan", "(self)"), ("end", "(self)"), ("moves", "(self)"), ("sooner", "(self)"),
            ("fewer", "(self)"), ("__len__", "(self)"), ("__eq__", "(self, other)"), ("__repr__", "(self)"),
        ):
            self.assertEqual(str(inspect.signature(vars(Book)[name])), things, name)

    def test_by_name(self):
        book = Book(days=3)
        self.assertIsNone(book.do(deed=("shut", 0)))
        self.assertEqual(book.all_or_none(deeds=[("shut", 1), ("shut", 2)]), [None, None])
        self.assertEqual(book.take(deeds=[("unshut", 0)]), [None])
        self.assertEqual(book.shut(), [1, 2])


class AtFirst(Case):
    def test_days(self):
        self.assertEqual(Book().days(), 10)
        for days in (1, 2, 20):
            self.assertEqual(Book(days=days).days(), days)
        for days in (0, 21, -1, *BEYOND):
            self.assertEqual(told(Book, days=days), ("BadDay", {"day": days, "word": "badday"}))

    def test_nothing_stands(self):
        for days in (1, 10, 20):
            book = Book(days=days)
            self.assertEqual(all_of(book), PlainFacts(days).all())
            self.assertEqual((book.shut(), book.stuffs(), book.works(), book.ties(), book.kept()), ([], [], [], [], None))
            self.assertEqual(book.yard(), (days, (), (), (), ()))
            self.assertEqual(answers_of(book), ([], 0, [], [], []))
            self.assertEqual((len(book), book.steps(), book.busy()), (0, [], False))
            self.assertEqual(told(book.undo), NOTHING_LEFT)
            self.assertEqual(told(book.redo), NOTHING_LEFT)

    def test_all_days_shut(self):
        book = Book(days=3)
        for day in range(3):
            book.do(("shut", day))
        self.assertEqual((book.shut(), book.plan(), book.end()), ([0, 1, 2], [], 0))
        book.do(("work", "ox", ((1, 1, ()),)))
        self.assertEqual(answer_faults(book), [])
        self.assertEqual(told(book.plan)[0], "NoPlan")
        book.do(("unshut", 2))
        self.assertEqual(book.plan(), [("ox", 2, 0)])


class Deeds(Case):
    """What each deed does and refuses."""

    def test_stuff(self):
        book = Book(days=2)
        for name, many in (("a", 0), ("abcdefgh", 9), ("zz", 5)):
            self.assertIsNone(book.do(("stuff", name, many)))
        self.assertEqual(book.stuffs(), [("a", [0, 0]), ("abcdefgh", [9, 9]), ("zz", [5, 5])])
        self.assertEqual(book.yard(), (2, (), ((0, 0), (9, 9), (5, 5)), (), ()))
        self.refuses(book, ("stuff", "b", 1), "Full", most=3)
        self.refuses(book, ("stuff", "b", 10), "BadMany")
        self.refuses(book, ("stuff", "a", 10), "Taken", name="a")
        for name in ("", "abcdefghi", "Ab", "a b", "a1", "a\n", "\xe4", "\u0430", "-", " "):
            self.refuses(book, ("stuff", name, FAR), "BadName")

    def test_stuff_many(self):
        book = Book()
        for many in (-1, 10, *BEYOND):
            self.refuses(book, ("stuff", "wood", many), "BadMany")

    def test_stock(self):
        book = book_of([("stuff", "wood", 3)], days=4)
        self.assertIsNone(book.do(("stock", "wood", 0, 0)))
        book.do(("stock", "wood", 3, 9))
        book.do(("stock", "wood", 3, 8))
        self.assertEqual(book.stuffs(), [("wood", [0, 3, 3, 8])])
        self.refuses(book, ("stock", "ox", FAR, FAR), "NoStuff", name="ox")
        self.refuses(book, ("stock", "", 0, 0), "NoStuff", name="")
        for day in (-1, 4, *BEYOND):
            self.refuses(book, ("stock", "wood", day, FAR), "BadDay", day=day)
        for many in (-1, 10, *BEYOND):
            self.refuses(book, ("stock", "wood", 0, many), "BadMany")

    def test_gone(self):
        book = book_of(SOME)
        self.refuses(book, ("gone", "a"), "NoStuff", name="a")
        self.refuses(book, ("gone", "wood"), "Held", name="ox")
        for deed in (("cut", 2), ("cut", 3), ("drop", "ox")):
            book.do(deed)
        self.refuses(book, ("gone", "wood"), "Held", name="wall")
        self.assertIsNone(book.do(("gone", "ox")))
        self.assertEqual(book.stuffs(), [("wood", [3] * 5)])
        self.assertEqual(book.yard()[3], ((0, 5, ((1, 0, (0,)),)), (0, 5, ((1, 0, (2,)),))))
        self.refuses(book, ("gone", "ox"), "NoStuff", name="ox")

    def test_held_by_a_later_way(self):
        book = book_of([("stuff", "a", 1), ("work", "z", ONE_WAY), ("work", "b", (*ONE_WAY, (1, 0, (("a", 1),))))])
        self.refuses(book, ("gone", "a"), "Held", name="b")

    def test_work(self):
        book = book_of([("stuff", "b", 1), ("stuff", "a", 1)])
        ways = ((9, 1, (("a", 9), ("b", 1))), (1, 0, ()), (2, 0, (("b", 2),)))
        self.assertIsNone(book.do(("work", "abcdefgh", ways)))
        self.assertIsNone(book.do(("work", "a", ONE_WAY)))
        self.assertEqual(book.works(), [("a", 0, 5, ONE_WAY), ("abcdefgh", 0, 5, ways)])
        plain = ((9, 1, (9, 1)), (1, 0, (0, 0)), (2, 0, (0, 2)))
        self.assertEqual(book.yard()[3], ((0, 5, ((1, 0, (0, 0)),)), (0, 5, plain)))
        self.refuses(book, ("work", "a", ()), "Taken", name="a")
        self.refuses(book, ("work", "A", ()), "BadName")
        self.refuses(book, ("work", "abcdefghi", ONE_WAY), "BadName")
        self.refuses(book, ("work", "", ONE_WAY), "BadName")

    def test_ways(self):
        book = book_of([("stuff", "b", 1), ("stuff", "a", 1)])
        good = (1, 0, (("a", 1), ("b", 1)))
        self.refuses(book, ("work", "ox", ()), "BadWays", at=0)
        self.refuses(book, ("work", "ox", (good,) * 4), "BadWays", at=3)
        self.refuses(book, ("work", "ox", (good,) * 5), "BadWays", at=3)
        for bad in (
            (0, 0, ()), (10, 0, ()), (-1, 0, ()), (FAR, 0, ()), (1, 2, ()), (1, -1, ()), (1, FAR, ()), (1, 0), (1,), (),
            (1, 0, (), 0), (1, 0, (("a", 0),)), (1, 0, (("a", 10),)), (1, 0, (("a", FAR),)), (1, 0, (("a", -1),)),
            (1, 0, (("A", 1),)), (1, 0, (("", 1),)), (1, 0, (("abcdefghi", 1),)), (1, 0, (("b", 1), ("a", 1))),
            (1, 0, (("a", 1), ("a", 1))), (1, 0, (("a",),)), (1, 0, (("a", 1, 1),)), (1, 0, ((),)),
        ):
            for at in range(4):
                for count in range(at + 1, 6):
                    ways = [good] * count
                    ways[at] = bad
                    self.assertEqual(told(book.do, ("work", "ox", tuple(ways))), ("BadWays", {"at": at, "word": "badways"}))
            self.refuses(book, ("work", "ox", (good, bad, bad)), "BadWays", at=1)
            # A wrong way goes ahead of a stuff that isn't there, wherever they stand.
            self.refuses(book, ("work", "ox", ((1, 0, (("c", 1),)), bad)), "BadWays", at=1)

    def test_ways_of_stuffs_that_are_not_there(self):
        book = book_of([("stuff", "b", 1)])
        for ways, name in (
            (((1, 0, (("a", 1), ("b", 1))),), "a"), (((1, 0, (("b", 1), ("c", 1))), (1, 0, (("a", 1),))), "c"),
            ((*ONE_WAY, (1, 0, (("a", 1), ("b", 1), ("c", 1), ("d", 1)))), "a"),
        ):
            self.refuses(book, ("work", "ox", ways), "NoStuff", name=name)
        full = book_of(FULL)
        self.refuses(full, ("work", "ox", ((1, 0, (("ox", 1),)),)), "NoStuff", name="ox")
        self.refuses(full, ("work", "ox", ONE_WAY), "Full", most=6)
        self.refuses(full, ("work", "a", ONE_WAY), "Taken", name="a")

    def test_drop(self):
        book = book_of(SOME)
        self.refuses(book, ("drop", "wood"), "NoWork", name="wood")
        self.refuses(book, ("drop", "a"), "Tied", number=2)
        self.refuses(book, ("drop", "ox"), "Tied", number=2)
        self.refuses(book, ("drop", "wall"), "Tied", number=3)
        book.do(("keep",))
        book.do(("cut", 2))
        self.assertIsNone(book.do(("drop", "ox")))
        self.assertEqual([row[0] for row in book.works()], ["a", "wall"])
        self.assertEqual([row[0] for row in book.kept()], ["a", "wall"])
        self.assertEqual(book.yard()[4], ((0, 0, 1, -20),))
        self.refuses(book, ("drop", "ox"), "NoWork", name="ox")
        book.do(("work", "ox", ONE_WAY))
        self.assertEqual([row[0] for row in book.kept()], ["a", "wall"])

    def test_tie(self):
        book = book_of([("work", name, ONE_WAY) for name in ("ox", "a", "wall")])
        self.assertEqual(book.do(("tie", 1, "ox", "wall", 20)), 1)
        self.assertEqual(book.do(("tie", 0, "wall", "a", -20)), 2)
        self.assertEqual(book.do(("tie", 0, "wall", "a", -20)), 3)
        self.assertEqual(book.ties(), [(1, 1, "ox", "wall", 20), (2, 0, "wall", "a", -20), (3, 0, "wall", "a", -20)])
        self.assertEqual(book.yard()[4], ((1, 1, 2, 20), (0, 2, 0, -20), (0, 2, 0, -20)))
        for one, other, name in (("b", "c", "b"), ("b", "b", "b"), ("b", "ox", "b"), ("ox", "c", "c")):
            self.refuses(book, ("tie", FAR, one, other, FAR), "NoWork", name=name)
        self.refuses(book, ("tie", FAR, "ox", "ox", FAR), "Same")
        for kind, gap in ((-1, 0), (2, 0), (FAR, 0), (-FAR, 0), (0, 21), (1, -21), (1, FAR), (0, -FAR)):
            self.refuses(book, ("tie", kind, "ox", "a", gap), "BadGap")

    def test_full_of_ties(self):
        book = book_of(FULL)
        self.refuses(book, ("tie", 0, "a", "b", 0), "Full", most=12)
        self.refuses(book, ("tie", 0, "a", "b", 21), "BadGap")
        self.refuses(book, ("tie", 0, "a", "a", 21), "Same")
        book.do(("cut", 5))
        self.assertEqual(book.do(("tie", 0, "a", "b", 0)), 13)

    def test_cut(self):
        book = book_of(SOME)
        for number in (0, 1, 4, -1, *BEYOND):
            self.refuses(book, ("cut", number), "NoTie", name=number)
        self.assertIsNone(book.do(("cut", 3)))
        self.assertEqual(book.ties(), [(2, 0, "ox", "a", -1)])
        self.assertEqual(book.do(("tie", 0, "ox", "a", 0)), 4)

    def test_numbers(self):
        book = book_of([("work", "a", ONE_WAY), ("work", "b", ONE_WAY)])
        self.assertEqual(book.do(("tie", 0, "a", "b", 0)), 1)
        book.do(("cut", 1))
        self.assertEqual(book.do(("tie", 0, "a", "b", 0)), 2)
        book.undo()
        self.assertEqual(book.do(("tie", 0, "b", "a", 0)), 2)
        for _ in range(3):
            book.undo()
        self.assertEqual(book.do(("tie", 0, "a", "b", 0)), 1)
        self.assertEqual(book.all_or_none([("tie", 0, "a", "b", 0), ("cut", 2), ("tie", 1, "a", "b", 0)]), [2, None, 3])
        self.assertEqual(book.all_or_none([("tie", 0, "a", "b", 0)]), [4])
        self.assertEqual(told(book.all_or_none, [("tie", 0, "a", "b", 0), ("cut", 9)])[0], "Broken")
        self.assertEqual(book.do(("tie", 0, "a", "b", 0)), 5)

    def test_shut(self):
        book = Book(days=4)
        for day in (3, 0, 2, 3, 0):
            self.assertIsNone(book.do(("shut", day)))
        self.assertEqual((book.shut(), book.yard()[1]), ([0, 2, 3], (0, 2, 3)))
        for day in (2, 1, 2):
            self.assertIsNone(book.do(("unshut", day)))
        self.assertEqual(book.shut(), [0, 3])
        self.assertEqual(len(book.steps()), 8)
        for word in ("shut", "unshut"):
            for day in (-1, 4, *BEYOND):
                self.refuses(book, (word, day), "BadDay", day=day)

    def test_shut_again_is_a_deed(self):
        book = book_of([("shut", 0)])
        before = all_of(book)
        for deed in (("shut", 0), ("unshut", 1), ("forget",)):
            book.do(deed)
            self.assertEqual(all_of(book), before)
            self.assertEqual(book.steps()[-1], [deed])
            self.assertEqual(book.undo(), [deed])
            self.assertEqual(all_of(book), before)

    def test_bounds_of_works(self):
        book = book_of([("work", "ox", ONE_WAY), ("work", "a", ONE_WAY)])
        for deed, low, high in (
            (("wait", "ox", 0), 0, 5), (("wait", "ox", 4), 4, 5), (("begun", "ox", 0), 0, 1), (("begun", "ox", 4), 4, 5),
            (("wait", "ox", 2), 2, 5), (("any", "ox"), 0, 5), (("begun", "ox", 2), 2, 3), (("any", "ox"), 0, 5),
        ):
            self.assertIsNone(book.do(deed))
            self.assertEqual(book.works(), [("a", 0, 5, ONE_WAY), ("ox", low, high, ONE_WAY)], deed)
            self.assertEqual(book.yard()[3][1][:2], (low, high))
            self.assertEqual(answer_faults(book), [])
        for word in ("wait", "begun"):
            self.refuses(book, (word, "wall", FAR), "NoWork", name="wall")
            for day in (-1, 5, *BEYOND):
                self.refuses(book, (word, "ox", day), "BadDay", day=day)
        self.refuses(book, ("any", "wall"), "NoWork", name="wall")

    def test_keep(self):
        book = book_of(SOME)
        plan = book.plan()
        self.assertIsNone(book.do(("keep",)))
        self.assertEqual((book.kept(), book.plan(), book.moves(), book.fewer()), (plan, plan, [], []))
        book.do(("begun", "wall", 4))
        self.assertEqual((book.kept(), book.moves()), (plan, ["wall"]))
        self.assertEqual(answer_faults(book), [])
        self.assertTrue(shows(book.yard(), book.fewer(), bound=book.end(), kept=kept_of_book(book), most=0))
        moved = book.plan()
        book.do(("keep",))
        self.assertEqual((book.kept(), book.moves()), (moved, []))
        book.do(("work", "new", ONE_WAY))
        self.assertEqual(book.kept(), moved)
        self.assertEqual(kept_of_book(book)[1], None)
        self.assertIsNone(book.do(("forget",)))
        self.assertEqual((book.kept(), book.moves(), book.fewer()), (None, [], []))

    def test_keep_without_works(self):
        book = Book()
        self.assertIsNone(book.do(("keep",)))
        self.assertIsNone(book.kept())
        self.assertEqual(book.steps(), [[("keep",)]])
        book = book_of([("work", "ox", ONE_WAY), ("keep",)])
        self.assertEqual(book.kept(), [("ox", 0, 0)])
        book.do(("drop", "ox"))
        self.assertIsNone(book.kept())
        self.assertEqual(book, Book(days=5))

    def test_keep_where_there_is_no_plan(self):
        deeds = [("stuff", "wood", 0), ("work", "ox", ((1, 0, (("wood", 1),)),))]
        book = book_of(deeds)
        before = state(book)
        for call in (book.do, lambda deed: book.take([deed])):
            error = refusal(call, ("keep",))
            self.assertEqual(error.word, "noplan")
            self.assertTrue(shows(book.yard(), error.log))
        self.assertEqual(told(book.all_or_none, [("shut", 0), ("keep",)]), ("Broken", {"at": 1, "word": "broken"}))
        error = refusal(Book(days=5).all_or_none, [*deeds, ("keep",), ("forget",)])
        self.assertEqual((error.at, error.__cause__.word, error.__cause__.log), (2, "noplan", answers_of(book)))
        self.assertEqual(state(book), before)
        self.assertEqual(book.all_or_none([("stock", "wood", 3, 1), ("keep",)]), [None, None])
        self.assertEqual(book.kept(), [("ox", 3, 0)])

    def test_one_name_for_a_work_and_a_stuff(self):
        book = book_of([("stuff", "ox", 1), ("work", "ox", ((1, 0, (("ox", 1),)),))])
        self.refuses(book, ("gone", "ox"), "Held", name="ox")
        book.do(("drop", "ox"))
        book.do(("gone", "ox"))
        self.assertEqual(book, Book(days=5))


class Forms(Case):
    def test_other_counts_of_things(self):
        for deeds in ((), SOME, FULL):
            book = book_of(deeds)
            for deed in EVERY:
                for bad in (deed[:-1], (*deed, 0), (*deed, "ox"), deed + deed):
                    self.refuses(book, bad, "BadDeed")

    def test_other_first_texts(self):
        book = book_of(SOME)
        for deed in EVERY:
            for word in ("", "Shut", "shuts", "shu", " " + deed[0], deed[0] + " ", deed[0].upper(), "days", "undo", "other"):
                self.refuses(book, (word, *deed[1:]), "BadDeed")

    def test_without_things(self):
        for deeds in ((), SOME, FULL):
            self.refuses(book_of(deeds), (), "BadDeed")

    def test_several_refusals_at_once(self):
        """Each deed with each of many things at each place, against a plain second telling."""
        names = ("ox", "a", "b", "new", "", "abcdefghi")
        numbers = (0, 1, 2, 13, 20, 21, -20, -21, FAR, -FAR)
        ways = (
            (), ONE_WAY, ONE_WAY * 3, ONE_WAY * 4, ((0, 0, ()), *ONE_WAY), (*ONE_WAY, (1, 0, (("new", 1),))),
            ((1, 0, (("new", 1),)), (1, 2, ())), ((1, 0, (("a", 1), ("z", 1))),),
        )
        things = {
            "stuff": (names, numbers), "stock": (names, numbers, numbers), "gone": (names,), "work": (names, ways),
            "drop": (names,), "tie": (numbers, names, names, numbers), "cut": (numbers,), "shut": (numbers,),
            "unshut": (numbers,), "wait": (names, numbers), "begun": (names, numbers), "any": (names,), "forget": (),
        }
        for deeds in ((), SOME, FULL, FULL[:9], FULL[:2] + FULL[3:8]):
            base, facts = book_of(deeds), facts_of(deeds)
            before = all_of(base)
            for word, choices in things.items():
                for some in itertools.product(*choices):
                    self.compare(base, facts, (word, *some), before)

    def compare(self, base, facts, deed, before):
        plain = copy.deepcopy(facts)
        try:
            want = (plain.do(deed, None), None)
        except Refused as refused:
            want = (None, refused.told)
        error = told(base.do, deed)
        self.assertEqual(error, want[1], deed)
        if error is not None:
            self.assertEqual(all_of(base), before, deed)
            return
        self.assertEqual(base.steps()[-1], [deed])
        self.assertEqual(all_of(base), plain.all(), deed)
        base.undo()
        self.assertEqual(base.do(deed), want[0])
        base.undo()
        self.assertEqual(all_of(base), before)


class Several(Case):
    def test_one_refused_at_any_place(self):
        good = [("stuff", "wood", 3), ("work", "ox", ONE_WAY), ("work", "a", ONE_WAY), ("tie", 1, "ox", "a", 0), ("keep",)]
        for at in range(len(good) + 1):
            for bad, name in ((("cut", 9), "NoTie"), ((), "BadDeed"), (("shut", 5), "BadDay"), (("gone", "b"), "NoStuff")):
                book = book_of([("shut", 4), ("unshut", 4)])
                book.undo()
                before, deeds = state(book), [*good[:at], bad, *good[at:]]
                copied = copy.deepcopy(deeds)
                for call in (book.all_or_none, book.take):
                    error = refusal(call, deeds)
                    self.assertEqual(vars(error), {"at": at, "word": "broken"})
                    self.assertEqual(error.__cause__.__class__.__name__, name)
                    self.assertEqual((state(book), deeds), (before, copied))
                self.assertEqual(book.redo(), [("unshut", 4)])

    def test_the_first_refused_one_is_told(self):
        error = refusal(Book().all_or_none, [("shut", 0), ("cut", 1), (), ("shut", 99)])
        self.assertEqual((error.at, error.__cause__.word), (1, "notie"))

    def test_later_deeds_see_what_earlier_ones_did(self):
        book = Book(days=3)
        deeds = [("work", "a", ONE_WAY), ("work", "b", ONE_WAY), ("tie", 1, "a", "b", 0), ("keep",), ("cut", 1)]
        self.assertEqual(book.all_or_none(deeds), [None, None, 1, None, None])
        self.assertEqual((book.steps(), book.kept()), ([deeds], [("a", 0, 0), ("b", 1, 0)]))
        self.assertEqual(book.undo(), deeds)
        self.assertEqual((book, book.steps()), (Book(days=3), []))
        self.assertEqual(book.redo(), deeds)
        self.assertEqual(book.kept(), [("a", 0, 0), ("b", 1, 0)])

    def test_no_deeds_are_no_step(self):
        book = book_of([("shut", 0), ("shut", 1)])
        book.undo()
        for call in (book.all_or_none, book.take):
            self.assertEqual(call([]), [])
            self.assertEqual(book.steps(), [[("shut", 0)]])
        self.assertEqual(book.redo(), [("shut", 1)])
        self.assertEqual(Book().all_or_none([]), [])

    def test_take(self):
        book = book_of([("work", "a", ONE_WAY), ("work", "b", ONE_WAY)])
        self.assertEqual(book.take([("tie", 0, "a", "b", 0)]), [1])
        self.assertEqual(book.take([("shut", 0)]), [None])
        self.assertEqual(book.take([("shut", 1), ("tie", 0, "a", "b", 0)]), [None, 2])
        self.assertEqual(told(book.take, [("cut", 9)])[0], "NoTie")
        self.assertEqual(told(book.take, [("shut", 1), ("cut", 9)]), ("Broken", {"at": 1, "word": "broken"}))
        self.assertEqual([len(step) for step in book.steps()], [1, 1, 1, 1, 2])

    def test_one_deed_as_one(self):
        book = Book()
        self.assertEqual(book.all_or_none([("shut", 0)]), [None])
        self.assertEqual(told(book.all_or_none, [("shut", 10)]), ("Broken", {"at": 0, "word": "broken"}))
        self.assertEqual(book.steps(), [[("shut", 0)]])


class Watched(list):
    """A list of deeds that notes whether the book is busy while it is gone through."""

    def __init__(self, book, deeds):
        super().__init__(deeds)
        self.book, self.seen = book, []

    def __iter__(self):
        for deed in super().__iter__():
            self.seen.append(self.book.busy())
            yield deed


class Busy(Case):
    def test_while_several_are_done(self):
        book = Book()
        deeds = Watched(book, [("shut", 0), ("shut", 1)])
        self.assertIs(book.busy(), False)
        book.all_or_none(deeds)
        self.assertIs(book.busy(), False)
        self.assertEqual(deeds.seen, [True, True])

    def test_never_behind_it(self):
        book = Book()
        for deeds in ([], [("shut", 0)], [("shut", 0), ("cut", 1)], [()], [("shut", 99), ("shut", 0)]):
            refusal(book.all_or_none, deeds)
            self.assertIs(book.busy(), False)
            refusal(book.take, deeds)
            self.assertIs(book.busy(), False)

    def test_however_it_ended(self):
        book = book_of([("shut", 0), ("shut", 1)])
        book.undo()
        before = state(book)
        for deeds in ([("shut", 2), None], [("shut", 2), ("shut", "x")], None):
            with self.assertRaises(TypeError):
                book.all_or_none(deeds)
            self.assertIs(book.busy(), False)
            self.assertEqual(state(book), before)

    def test_not_by_one(self):
        book = Book()
        book.do(("shut", 0))
        self.assertIs(book.busy(), False)


class Steps(Case):
    def test_undo_and_redo(self):
        book, seen = Book(days=5), []
        for deed in SOME:
            seen.append((all_of(book), answers_of(book)))
            book.do(deed)
        last = (all_of(book), answers_of(book))
        for at in reversed(range(len(SOME))):
            self.assertEqual(book.undo(), [SOME[at]])
            self.assertEqual((all_of(book), answers_of(book)), seen[at])
            self.assertEqual(book.steps(), [[deed] for deed in SOME[:at]])
        before = state(book)
        self.assertEqual(told(book.undo), NOTHING_LEFT)
        self.assertEqual(state(book), before)
        for deed in SOME:
            self.assertEqual(book.redo(), [deed])
        self.assertEqual((all_of(book), answers_of(book)), last)
        before = state(book)
        self.assertEqual(told(book.redo), NOTHING_LEFT)
        self.assertEqual(state(book), before)

    def test_another_step_lets_go(self):
        for deeds in ([("shut", 2)], [("shut", 2), ("unshut", 2)]):
            for call in (Book.take, Book.all_or_none):
                book = book_of([("shut", 0), ("shut", 1)])
                book.undo()
                call(book, deeds)
                self.assertEqual(told(book.redo), NOTHING_LEFT)
                self.assertEqual(book.undo(), deeds)
                self.assertEqual(book.redo(), deeds)

    def test_a_refused_one_lets_nothing_go(self):
        book = book_of([("shut", 0), ("shut", 1)])
        book.undo()
        for call, thing in ((book.do, ("cut", 1)), (book.all_or_none, [("shut", 2), ()]), (book.take, [()])):
            self.assertIsNotNone(refusal(call, thing))
            self.assertEqual(book.redo(), [("shut", 1)])
            book.undo()

    def test_kinds(self):
        book = Book()
        book.do(("shut", 0))
        book.all_or_none([("shut", 1), ("shut", 2)])
        self.assertEqual(book.steps(), [[("shut", 0)], [("shut", 1), ("shut", 2)]])
        self.assertEqual([type(step) for step in book.steps()], [list, list])
        self.assertIs(type(book.undo()), list)
        self.assertIs(type(book.redo()), list)

    def test_numbers_too(self):
        book = book_of(SOME)
        self.assertEqual(book.do(("tie", 0, "ox", "a", 0)), 4)
        book.undo()
        book.undo()
        self.assertEqual(book.undo(), [("cut", 1)])
        self.assertEqual([row[0] for row in book.ties()], [1, 2, 3])
        for _ in range(3):
            book.redo()
        self.assertEqual(book.do(("tie", 0, "ox", "a", 0)), 5)


class Twins(Case):
    def test_all_of_it(self):
        book = book_of(SOME)
        book.do(("keep",))
        for _ in range(4):
            book.undo()
        twin = book.twin()
        self.assertIs(type(twin), Book)
        self.assertEqual(twin, book)
        self.assertEqual(state(twin), state(book))

    def test_goes_its_own_way(self):
        book = book_of(SOME)
        book.undo()
        before = state(book)
        twin = book.twin()
        twin.redo()
        twin.do(("tie", 0, "ox", "a", 0))
        twin.do(("keep",))
        twin.do(("stock", "wood", 0, 0))
        self.assertEqual(state(book), before)
        want = state(twin)
        while refusal(book.undo) is None:
            pass
        book.do(("shut", 0))
        self.assertEqual(state(twin), want)
        self.assertNotEqual(twin, book)

    def test_apart_from_the_first(self):
        one, other = Book(), Book()
        one.do(("shut", 0))
        self.assertEqual((other.shut(), other.steps()), ([], []))


class Alike(Case):
    def test_what_counts(self):
        base = [("stuff", "s", 2), ("work", "a", ONE_WAY), ("work", "b", ONE_WAY), ("tie", 0, "a", "b", 0)]
        book = book_of(base)
        self.assertEqual(book, book_of(base))
        self.assertEqual(book, book_of([base[2], base[1], base[0], base[3]]))
        self.assertNotEqual(book, book_of(base, days=6))
        for more in (
            [("shut", 0)], [("stock", "s", 0, 0)], [("stuff", "t", 1)], [("work", "c", ONE_WAY)], [("wait", "a", 1)],
            [("begun", "a", 0)], [("keep",)], [("cut", 1)], [("tie", 0, "a", "b", 0)], [("tie", 0, "a", "b", 0), ("cut", 2)],
            [("cut", 1), ("tie", 0, "a", "b", 0)], [("cut", 1), ("drop", "a"), ("work", "a", ((2, 0, ()),))],
        ):
            other = book_of([*base, *more])
            self.assertIs(book == other, False, more)
            self.assertIs(book != other, True, more)
        for more in (
            [("shut", 0), ("unshut", 0)], [("shut", 3), ("shut", 0), ("unshut", 3), ("unshut", 0)], [("keep",), ("forget",)], [("wait", "a", 0)], [("forget",)],
            [("stuff", "t", 1), ("gone", "t")], [("stock", "s", 4, 2)], [("begun", "b", 1), ("any", "b")],
        ):
            other = book_of([*base, *more])
            self.assertIs(book == other, True, more)
            self.assertNotEqual(book.steps(), other.steps())

    def test_shut_days_whichever_way(self):
        ways = ([0, 2], [2, 0], [2, 0, 2, 0])
        books = [book_of([("shut", day) for day in days]) for days in ways]
        books.append(book_of([("shut", 0), ("shut", 1), ("shut", 2), ("unshut", 1)]))
        for one, other in itertools.product(books, repeat=2):
            self.assertEqual(one, other)

    def test_the_next_number_alone(self):
        base = [("work", "a", ONE_WAY), ("work", "b", ONE_WAY)]
        book, other = book_of(base), book_of([*base, ("tie", 0, "a", "b", 0), ("cut", 1)])
        self.assertEqual(all_of(book), all_of(other))
        self.assertNotEqual(book, other)
        other.undo()
        other.undo()
        self.assertEqual(book, other)

    def test_nothing_else(self):
        book = Book()
        for thing in (None, 0, "", (), [], {}, all_of(book), "Book(10 days, 0 works)", book.yard(), object()):
            self.assertIs(book == thing, False)
            self.assertIs(thing == book, False)
            self.assertIs(book != thing, True)

    def test_length_and_repr(self):
        book = Book(days=1)
        self.assertEqual((len(book), repr(book)), (0, "Book(1 days, 0 works)"))
        book.do(("work", "ox", ONE_WAY))
        self.assertEqual((len(book), repr(book)), (1, "Book(1 days, 1 works)"))
        self.assertEqual((len(book_of(FULL, 20)), repr(book_of(FULL, 20))), (6, "Book(20 days, 6 works)"))
        self.assertEqual(repr(book_of(SOME[:4], 10)), "Book(10 days, 2 works)")


class Telling(Case):
    def test_kinds(self):
        book = book_of(SOME)
        book.do(("keep",))
        for rows in (book.stuffs(), book.works(), book.ties(), book.kept(), book.plan(), book.sooner()):
            self.assertIs(type(rows), list)
            self.assertEqual({type(row) for row in rows}, {tuple})
        self.assertEqual({type(row[1]) for row in book.stuffs()}, {list})
        for thing in (book.shut(), book.moves(), book.fewer()):
            self.assertIs(type(thing), list)
        self.assertIs(type(book.end()), int)

    def test_the_plan(self):
        book = book_of(SOME)
        self.assertEqual(answer_faults(book), [])
        self.assertEqual([row[0] for row in book.plan()], ["a", "ox", "wall"])
        self.assertTrue(shows(book.yard(), book.sooner(), bound=book.end() - 1))

    def test_moves_by_names(self):
        book = book_of([("stuff", "s", 1), *[("work", name, ((1, 0, (("s", 1),)),)) for name in ("c", "a", "b")], ("keep",)])
        plan = {name: begin for name, begin, _ in book.kept()}
        first = [name for name in plan if plan[name] == 0][0]
        book.do(("stock", "s", 0, 0))
        self.assertEqual((book.end(), book.moves()), (4, [first]))
        book.do(("stock", "s", 1, 0))
        self.assertEqual((book.end(), len(book.moves())), (5, 2))
        self.assertEqual(book.moves(), sorted(book.moves()))
        self.assertEqual(answer_faults(book), [])

    def test_no_plan(self):
        book = book_of([("work", "a", ONE_WAY), ("work", "b", ONE_WAY), ("keep",), ("begun", "a", 4), ("tie", 1, "a", "b", 0)])
        for call in (book.plan, book.end, book.moves, book.sooner, book.fewer):
            error = refusal(call)
            self.assertEqual(error.word, "noplan")
            self.assertEqual(answer_faults(book), [])
            want = list(error.log)
            error.log.clear()
            self.assertEqual(refusal(call).log, want)
            self.assertTrue(shows(book.yard(), want))
        self.assertEqual(book.kept(), [("a", 0, 0), ("b", 0, 0)])


if __name__ == "__main__":
    unittest.main()
