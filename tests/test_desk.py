"""The interface of hodman/desk.py."""

import inspect
import random
import unittest

from hodman.book import Book
from hodman.desk import Desk
from hodman.pages import deed_text, page
from tests.helper import all_of, answers_of, chance_deed, refusal

# Each line with its answer, one behind the other, at a desk of its own.
TALK = (
    ("stuffs", "none"), ("works", "none"), ("ties", "none"), ("kept", "none"), ("shut", "none"), ("plan", "none"),
    ("moves", "none"), ("end", "0"), ("undo", "no nothingleft"), ("redo", "no nothingleft"),
    ("stuff wood 3", "done"), ("stuff stone 2;shut 6;shut 5", "done done done"), ("shut", "5, 6"),
    ("stock stone 9 0", "done"), ("stuffs", "stone 2 2 2 2 2 2 2 2 2 0, wood 3 3 3 3 3 3 3 3 3 3"),
    ("work wall 2+wood*2", "done"), ("work ox 3r+stone*1+wood*2/2", "done"), ("works", "ox 0 10, wall 0 10"),
    ("tie 1 ox wall 0;tie 0 ox wall -20", "1 2"), ("ties", "1 1 ox wall 0, 2 0 ox wall -20"), ("plan", "ox 0 1, wall 2 0"),
    ("end", "4"), ("kept", "none"), ("keep", "done"), ("kept", "ox 0 1, wall 2 0"), ("moves", "none"),
    ("begun ox 4;wait wall 3", "done done"), ("works", "ox 4 5, wall 3 10"), ("plan", "ox 4 1, wall 6 0"), ("end", "8"),
    ("moves", "ox, wall"), ("undo", "begun ox 4;wait wall 3"), ("undo", "keep"), ("redo", "keep"), ("moves", "none"),
    ("redo", "begun ox 4;wait wall 3"), ("redo", "no nothingleft"), ("any ox", "done"), ("works", "ox 0 10, wall 3 10"),
    ("moves", "wall"), ("cut 1;tie 1 wall ox 0;cut 3", "done 3 done"), ("ties", "2 0 ox wall -20"), ("tie 1 ox wall 0", "4"),
    ("undo", "tie 1 ox wall 0"), ("redo", "tie 1 ox wall 0"), ("forget", "done"), ("kept", "none"),
    ("undo", "forget"), ("undo", "tie 1 ox wall 0"), ("undo", "cut 1;tie 1 wall ox 0;cut 3"),
    ("undo", "any ox"), ("works", "ox 4 5, wall 3 10"),
)
# Each refusal by a line, at a desk to which this was said.
READY = "stuff wood 0;stuff a 1;work ox 1+a*1;work b 1;work c 1+a*2/1;tie 0 ox b 0"
REFUSED = {
    "stuff wood 10": "taken", "stuff new 10": "badmany", "stuff new 1;stuff two 1": "broken 1", "stock new 0 0": "nostuff",
    "stock wood 10 99": "badday", "stock wood 0 -1": "badmany", "gone new": "nostuff", "gone a": "held", "work ox 0": "taken",
    "work new 0": "badways", "work new 1/1/1/1": "badways", "work new 1+b*1+a*1": "badways", "work new 1+z*1": "nostuff",
    "drop new": "nowork", "drop ox": "tied", "tie 0 ox new 0": "nowork", "tie 5 ox ox 0": "same", "tie 2 ox b 0": "badgap",
    "tie 0 ox b 21": "badgap", "tie 1 ox b -21": "badgap", "cut 2": "notie", "cut 0": "notie", "shut 10": "badday",
    "unshut -1": "badday", "wait new 99": "nowork", "wait ox 10": "badday", "begun ox -999": "badday", "any new": "nowork",
    "cut 1;cut 1": "broken 1", "cut 2;cut 1": "broken 0", "shut 0;shut 1;shut 10;shut 11": "broken 2", "forget;shut 99": "broken 1",
    "work new 1+wood*1;keep": "broken 1", "redo": "nothingleft",
}
WHAT = (
    "", " ", ";", "shut 1;", ";shut 1", "shut 1;;shut 2", "shut 1; shut 2", "shut 1 ;shut 2", " shut 1", "shut 1 ", "shut  1",
    "shut\t1", "shut 1\n", "shut 1,shut 2", "shut 01", "shut -0", "shut 1000", "shut x", "shut 1 2", "Shut 1", "keep 1", "keep ",
    "keep;", "undo;", ";undo", "undo;undo", "undo 1", "undo ", " undo", "redo;redo", "Undo", "undoo", "shut 1;undo", "plan;end", "plan ",
    " plan", "plan 1", "PLAN", "plans", "end ", "end 1", "ends", "kept;keep", "kept ox", "tie", "ties ", "tie 1", "work", "works 1", "work ox",
    "work ox ", "work ox 1/", "work Ox 1", "work ox 1+a", "work ox -1", "work abcdefghi 1", "stuff", "stuffs wood", "stuff wood", "stuff ab 1 2",
    "shut ", " shut", "shuts", "unshut", "moves ox", "move", "days", "days 10", "steps", "yard", "sooner", "fewer", "busy", "twin", "what",
    "no", "none", "done", "help", "cut", "cut one", "forget it", "any", "any 1", "gone", "stock wood 1", "wait ox", "begun 1 ox",
)


class Arguments(unittest.TestCase):
    def test_as_told(self):
        self.assertEqual(str(inspect.signature(Desk)), "(*, book=None)")
        self.assertEqual(str(inspect.signature(vars(Desk)["book"])), "(self)")
        self.assertEqual(str(inspect.signature(vars(Desk)["say"])), "(self, line)")

    def test_by_name(self):
        book = Book(days=2)
        self.assertIs(Desk(book=book).book(), book)
        self.assertEqual(Desk(book=None).say(line="end"), "0")


class Books(unittest.TestCase):
    def test_of_its_own(self):
        one, other = Desk(), Desk()
        self.assertIs(type(one.book()), Book)
        self.assertEqual(one.book(), Book())
        self.assertIs(one.book(), one.book())
        self.assertIsNot(one.book(), other.book())
        one.say("shut 1")
        self.assertEqual((one.book().shut(), other.book().shut()), ([1], []))

    def test_of_a_handed_one(self):
        # A book without works too, though its length is nought.
        for deeds in ([], [("work", "ox", ((1, 0, ()),))]):
            book = Book(days=3)
            book.all_or_none(deeds)
            desk, other = Desk(book=book), Desk(book=book)
            self.assertIs(desk.book(), book)
            self.assertEqual(desk.say("shut 2"), "done")
            self.assertEqual(book.shut(), [2])
            book.do(("shut", 0))
            self.assertEqual((desk.say("shut"), other.say("shut")), ("0, 2", "0, 2"))
            self.assertEqual(other.say("undo"), "shut 0")


class Lines(unittest.TestCase):
    def test_a_talk(self):
        desk = Desk()
        for line, answer in TALK:
            self.assertEqual(desk.say(line), answer, line)

    def test_refusals(self):
        for line, word in REFUSED.items():
            desk = Desk()
            self.assertEqual(desk.say(READY), "done done done done done 1")
            before = (all_of(desk.book()), desk.book().steps())
            self.assertEqual(desk.say(line), "no " + word, line)
            self.assertEqual((all_of(desk.book()), desk.book().steps()), before)
        self.assertEqual(desk.say("undo"), READY)

    def test_full(self):
        desk = Desk()
        for name in "abc":
            desk.say(f"stuff {name} 1")
        for name in "abcdef":
            desk.say(f"work {name} 1")
        for number in range(12):
            self.assertEqual(desk.say("tie 0 a b -20"), str(number + 1))
        for line in ("stuff d 1", "work g 1", "tie 0 a b -20"):
            self.assertEqual(desk.say(line), "no full")
        self.assertEqual(desk.say("cut 12"), "done")
        self.assertEqual(desk.say("tie 0 a b -20"), "13")

    def test_no_plan(self):
        desk = Desk()
        desk.say("stuff wood 0;work ox 1+wood*1")
        for line in ("plan", "end", "moves", "keep"):
            self.assertEqual(desk.say(line), "no noplan")
        self.assertEqual(desk.say("shut 0;keep"), "no broken 1")
        self.assertEqual(desk.say("kept"), "none")
        self.assertEqual(desk.say("stock wood 9 1;keep"), "done done")
        self.assertEqual(desk.say("kept"), "ox 9 0")

    def test_any_other_line(self):
        for ready in ("shut 1", READY):
            desk = Desk()
            desk.say(ready)
            before = (all_of(desk.book()), desk.book().steps())
            for line in WHAT:
                self.assertEqual(desk.say(line), "what", line)
            self.assertEqual((all_of(desk.book()), desk.book().steps()), before)

    def test_deeds_as_take_does_them(self):
        for seed in range(60):
            chance = random.Random(seed)
            desk, book = Desk(book=Book(days=5)), Book(days=5)
            for _ in range(30):
                deeds = [chance_deed(chance, book) for _ in range(chance.choice((1, 1, 2, 3)))]
                if not all([self.can_be_read(deed) for deed in deeds]):
                    continue
                line = ";".join([deed_text(deed) for deed in deeds])
                error = refusal(book.take, deeds)
                if error is None:
                    book.undo()
                    want = " ".join(["done" if answer is None else str(answer) for answer in book.take(deeds)])
                else:
                    want = f"no {error.word} {error.at}" if len(deeds) > 1 else f"no {error.word}"
                self.assertEqual(desk.say(line), want, line)
                self.assertEqual(desk.book(), book)
                self.assertEqual(desk.book().steps(), book.steps())
                self.tells(desk, book)
            rows = page(book).split("\n")[1:-1]
            for row in reversed(rows):
                self.assertEqual(desk.say("undo"), row)
            for row in rows:
                self.assertEqual(desk.say("redo"), row)

    def can_be_read(self, deed):
        """Whether a drawn deed is one that a text has: a known first text, good names, few figures."""
        texts = [thing for thing in deed if isinstance(thing, str)]
        numbers = [thing for thing in deed if isinstance(thing, int)]
        ways = [way for thing in deed if isinstance(thing, tuple) for way in thing]
        if any([len(way) != 3 or not 0 <= way[0] <= 999 or way[1] not in (0, 1) for way in ways]):
            return False
        needs = [need for way in ways for need in way[2]]
        if any([len(need) != 2 for need in needs]) or ("work" in deed[:1] and not ways):
            return False
        texts += [name for name, _ in needs]
        plain = all([text.isascii() and text.isalpha() and text.islower() and len(text) < 9 for text in texts])
        return plain and all([abs(number) < 1000 for number in numbers]) and self.form(deed)

    def form(self, deed):
        """Whether the deed has the first text and the kinds of things of one."""
        kinds = "".join([{int: "n", str: "t", tuple: "w"}[type(thing)] for thing in deed[1:]])
        forms = {
            "stuff": "tn", "stock": "tnn", "gone": "t", "work": "tw", "drop": "t", "tie": "nttn", "cut": "n", "shut": "n",
            "unshut": "n", "wait": "tn", "begun": "tn", "any": "t", "keep": "", "forget": "",
        }
        return len(deed) > 0 and forms.get(deed[0]) == kinds

    def tells(self, desk, book):
        def text(rows):
            return ", ".join([" ".join(map(str, row)) for row in rows]) or "none"

        self.assertEqual(desk.say("stuffs"), text([(name, *row) for name, row in book.stuffs()]))
        self.assertEqual(desk.say("works"), text([row[:3] for row in book.works()]))
        self.assertEqual(desk.say("ties"), text(book.ties()))
        self.assertEqual(desk.say("kept"), text(book.kept() or []))
        self.assertEqual(desk.say("shut"), text([[day] for day in book.shut()]))
        answer = answers_of(book)
        if isinstance(answer, list):
            want = ["no noplan"] * 3
        else:
            want = [text(answer[0]), str(answer[1]), text([[name] for name in answer[2]])]
        self.assertEqual([desk.say(line) for line in ("plan", "end", "moves")], want)


if __name__ == "__main__":
    unittest.main()
