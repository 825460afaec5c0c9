"""Books against a plain second telling, over many drawn deeds, with takings back, doings again, twins and pages."""

import copy
import math
import random
import unittest

from hodman.book import Book
from hodman.pages import page, read_page
from tests.helper import PlainFacts, Refused, all_of, answer_faults, answers_of, chance_deed, kept_of_book, plain_end
from tests.helper import plain_moves, plain_plans, refusal, spoil, told


class PlainSteps:
    """The steps of a book, from which all that stands is counted anew each time."""

    def __init__(self, days):
        self.days, self.past, self.undone = days, [], []

    def facts(self):
        facts = PlainFacts(self.days)
        for deeds, plans in self.past:
            for deed, rows in zip(deeds, plans):
                facts.do(deed, lambda: rows)
        return facts

    def add(self, deeds, book):
        """What is told of the deeds, or the place and refusal of the first one that is refused.

        The book is a twin at which they are done one by one, to learn the plans that are kept.
        """
        facts, plans, out = self.facts(), [], []
        for at, deed in enumerate(deeds):
            rows = None if refusal(book.plan) is not None else book.plan()
            try:
                out.append(facts.do(deed, lambda: rows))
            except Refused as refused:
                return (None, at, refused.told)
            plans.append(rows)
            book.do(deed)
        if deeds:
            self.past.append((list(deeds), plans))
            self.undone = []
        return (out, None, None)


def drawn(chance, book, count):
    """So many deeds, drawn by what stands behind the ones ahead."""
    scratch, deeds = book.twin(), []
    for _ in range(count):
        deeds.append(chance_deed(chance, scratch))
        refusal(scratch.do, deeds[-1])
    return deeds


class Case(unittest.TestCase):
    def same_refusal(self, got, want):
        if want is not None and want[0] == "NoPlan":
            self.assertEqual((got[0], got[1]["word"]), ("NoPlan", "noplan"))
        else:
            self.assertEqual(got, want)

    def do_one(self, chance, book, plain):
        deed = chance_deed(chance, book)
        out, _, refused = plain.add([deed], book.twin())
        call, thing = chance.choice(((book.do, deed), (book.take, [deed])))
        error = told(call, thing)
        self.same_refusal(error, refused)
        if error is None:
            # It was done by the call that looked whether it is refused; once more for what it tells.
            self.assertEqual(book.undo(), [deed])
            self.assertEqual(call(thing), out[0] if thing is deed else out)
        return error is None

    def do_several(self, chance, book, plain):
        deeds = drawn(chance, book, chance.choice((0, 1, 2, 2, 3, 5)))
        before = copy.deepcopy(deeds)
        out, at, refused = plain.add(deeds, book.twin())
        error = refusal(book.all_or_none, deeds)
        self.assertEqual(deeds, before)
        if refused is None:
            self.assertIsNone(error)
            if deeds:
                self.assertEqual(book.undo(), deeds)
            self.assertEqual(book.all_or_none(deeds), out)
        else:
            self.assertEqual((error.word, error.at), ("broken", at))
            cause = error.__cause__
            self.same_refusal((cause.__class__.__name__, vars(cause)), refused)
        return refused is None

    def back(self, book, plain):
        if plain.past:
            plain.undone.append(plain.past.pop())
            self.assertEqual(book.undo(), plain.undone[-1][0])
        else:
            self.assertEqual(told(book.undo)[0], "NothingLeft")

    def again(self, book, plain):
        if plain.undone:
            plain.past.append(plain.undone.pop())
            self.assertEqual(book.redo(), plain.past[-1][0])
        else:
            self.assertEqual(told(book.redo)[0], "NothingLeft")

    def check(self, book, plain):
        facts = plain.facts()
        self.assertEqual(all_of(book), facts.all())
        self.assertEqual(book.steps(), [deeds for deeds, _ in plain.past])
        self.assertEqual((len(book), book.busy()), (len(facts.works), False))
        self.assertEqual(repr(book), f"Book({facts.days} days, {len(facts.works)} works)")
        # The next number is told by a tie alone.
        twin = book.twin()
        if len(facts.works) > 1 and len(facts.ties) < 12:
            one, other = sorted(facts.works)[:2]
            self.assertEqual(twin.do(("tie", 0, one, other, 0)), facts.number)
        self.assertEqual(all_of(book), facts.all())

    def check_plan(self, book):
        """By its logs always, and by going through all plans where these are not too many."""
        self.assertEqual(answer_faults(book), [], book.steps())
        yard, kept = book.yard(), kept_of_book(book)
        if math.prod([(high - low) * len(ways) for low, high, ways in yard[3]]) > 400:
            return 0
        plans = plain_plans(yard)
        if not plans:
            self.assertEqual(told(book.plan)[0], "NoPlan")
            return 1
        end = min([plain_end(yard, plan) for plan in plans])
        soon = [plan for plan in plans if plain_end(yard, plan) == end]
        fewest = min([plain_moves(plan, kept) for plan in soon])
        self.assertEqual((book.end(), len(book.moves())), (end, fewest))
        self.assertIn([(begin, way) for _, begin, way in book.plan()], soon)
        return 1


class Chance(Case):
    def test_drawn_deeds(self):
        counts = {}
        for seed in range(60):
            chance = random.Random(seed)
            days = chance.randint(1, 6)
            books = [(Book(days=days), PlainSteps(days))]
            for _ in range(50):
                book, plain = chance.choice(books)
                turn = chance.choice(("one",) * 8 + ("several",) * 3 + ("back", "back", "again", "twin"))
                if turn == "one":
                    done = self.do_one(chance, book, plain)
                elif turn == "several":
                    done = self.do_several(chance, book, plain)
                elif turn == "twin":
                    books = [*books[-2:], (book.twin(), copy.deepcopy(plain))]
                    done = True
                else:
                    done = (self.back if turn == "back" else self.again)(book, plain)
                counts[turn, done] = counts.get((turn, done), 0) + 1
                for one, other in books:
                    self.check(one, other)
        self.assertEqual(len(counts), 7)
        self.assertGreater(min(counts.values()), 50, counts)

    def test_plans(self):
        counts, moving = 0, 0
        for seed in range(100, 190):
            chance = random.Random(seed)
            book = Book(days=chance.randint(1, 5))
            for _ in range(35):
                refusal(book.do, chance_deed(chance, book))
                if chance.random() < 0.4:
                    counts += self.check_plan(book)
                    moving += refusal(book.plan) is None and book.moves() != []
        self.assertGreater(counts, 100)
        self.assertGreater(moving, 15)

    def test_what_stands_alike_tells_alike(self):
        for seed in range(200, 240):
            chance = random.Random(seed)
            book = Book(days=chance.randint(2, 6))
            for _ in range(30):
                if chance.random() < 0.2:
                    refusal(book.undo)
                else:
                    refusal(book.take, drawn(chance, book, chance.choice((1, 1, 1, 3))))
            want = (all_of(book), answers_of(book))
            self.assertEqual((all_of(book), answers_of(book)), want)
            twin, other = book.twin(), read_page(page(book))
            for alike in (twin, other, read_page(page(twin))):
                self.assertEqual(alike, book)
                self.assertEqual((all_of(alike), answers_of(alike)), want)
                self.assertEqual(alike.steps(), book.steps())
            while refusal(twin.undo) is None:
                pass
            while refusal(twin.redo) is None:
                if twin.steps() == book.steps():
                    self.assertEqual((all_of(twin), answers_of(twin)), want)
            # Back to nothing and forth again, both books go through the same.
            while refusal(other.undo) is None:
                book.undo()
                self.assertEqual((all_of(other), answers_of(other)), (all_of(book), answers_of(book)))
            self.assertEqual(told(book.undo)[0], "NothingLeft")

    def test_the_same_told_in_another_order(self):
        for seed in range(300, 340):
            chance = random.Random(seed)
            one = Book(days=chance.randint(2, 5))
            for _ in range(25):
                refusal(one.do, chance_deed(chance, one))
            other = Book(days=one.days())
            self.tell_anew(chance, one, other)
            # What is kept is told by nothing but a plan, and the next number by nothing but ties.
            one.do(("forget",))
            self.assertEqual([row[1:] for row in one.ties()], [row[1:] for row in other.ties()])
            self.assertEqual((one.stuffs(), one.works(), one.shut()), (other.stuffs(), other.works(), other.shut()))
            self.assertEqual(one.yard(), other.yard())
            self.assertEqual(answers_of(one), answers_of(other))
            if refusal(one.do, ("keep",)) is None:
                other.do(("keep",))
                self.assertEqual((one.kept(), answers_of(one)), (other.kept(), answers_of(other)))

    def tell_anew(self, chance, one, other):
        """Tells a new book what stands in another one, in an order by chance."""
        stuffs = [[("stuff", name, 0), *[("stock", name, day, many) for day, many in enumerate(row)]] for name, row in one.stuffs()]
        works = [[("work", name, ways), ("wait", name, low), *([("begun", name, low)] if high == low + 1 else [])]
                 for name, low, high, ways in one.works()]
        chance.shuffle(stuffs)
        chance.shuffle(works)
        for deeds in (*stuffs, *works):
            other.all_or_none(deeds)
        for day in chance.sample(one.shut(), len(one.shut())):
            other.do(("shut", day))
        for row in one.ties():
            other.do(("tie", *row[1:]))


class Handed(Case):
    """Nothing that is handed in is kept but as a copy, and each told list is a new one."""

    def asked(self, book):
        calls = (book.shut, book.stuffs, book.works, book.ties, book.kept, book.steps, book.plan, book.moves, book.sooner,
                 book.fewer)
        return [error.log if (error := refusal(call)) is not None else call() for call in calls]

    def test_told_lists(self):
        for seed in range(400, 425):
            chance = random.Random(seed)
            book = Book(days=chance.randint(2, 5))
            for _ in range(25):
                refusal(book.take, drawn(chance, book, chance.choice((1, 3))))
            want = copy.deepcopy((self.asked(book), all_of(book), answers_of(book)))
            for thing in self.asked(book):
                spoil(thing)
            spoil(list(all_of(book).values()))
            self.assertEqual((self.asked(book), all_of(book), answers_of(book)), want)
            spoil(book.undo())
            spoil(book.redo())
            twin = book.twin()
            for thing in self.asked(twin):
                spoil(thing)
            self.assertEqual((self.asked(book), all_of(book), answers_of(book)), want)

    def test_lists_of_deeds(self):
        book = Book(days=3)
        deeds = [("shut", 0), ("shut", 1)]
        spoil(book.all_or_none(deeds))
        spoil(deeds)
        one = [("shut", 2)]
        spoil(book.take(one))
        spoil(one)
        self.assertEqual(book.steps(), [[("shut", 0), ("shut", 1)], [("shut", 2)]])
        self.assertEqual(book.shut(), [0, 1, 2])

    def test_lists_in_deeds(self):
        for call in (lambda book, deed: book.do(deed), lambda book, deed: book.all_or_none([("shut", 0), deed])):
            book = Book(days=3)
            needs = [("wood", 1)]
            ways = [(1, 0, needs)]
            book.do(("stuff", "wood", 1))
            call(book, ("work", "ox", ways))
            spoil(needs)
            spoil(ways)
            self.assertEqual(book.works(), [("ox", 0, 3, ((1, 0, (("wood", 1),)),))])
            self.assertEqual(book.plan(), [("ox", 0, 0)])
            self.assertEqual(read_page(page(book)), book)


if __name__ == "__main__":
    unittest.main()
