"""The interface of hodman/errors.py."""

import inspect
import unittest

import hodman.errors as errors

FIELDS = {
    "BadYard": ("part", "at"), "BadWork": ("work",), "BadWay": ("way",), "BadDay": ("day",),
    "BadStuff": ("stuff",), "BadPlan": ("at",), "BadSaying": ("at",), "BadBound": ("bound",),
    "BadKept": ("at",), "BadMost": ("most",), "NoLine": (), "BadLog": ("row",), "NoPlan": ("log",),
    "BadName": (), "Taken": ("name",), "Full": ("most",), "BadMany": (), "BadWays": ("at",),
    "BadGap": (), "Same": (), "Held": ("name",), "Tied": ("number",), "BadDeed": (),
    "Broken": ("at",), "BadText": ("row",),
}
MISSING = {"NoWork": ("name",), "NoStuff": ("name",), "NoTie": ("name",)}
WORTHS = {
    "part": "works", "log": [((), ("led", 0))], "name": "ox", "number": 7,
}


def worths(fields):
    return [WORTHS.get(field, 3) for field in fields]


class Bases(unittest.TestCase):
    def test_roots(self):
        self.assertEqual(errors.YardError.__bases__, (ValueError,))
        self.assertEqual(errors.Missing.__bases__, (LookupError,))
        self.assertEqual(errors.NothingLeft.__bases__, (IndexError,))

    def test_missing_and_nothing_left_are_no_yard_errors(self):
        for name in ("Missing", "NoWork", "NoStuff", "NoTie", "NothingLeft"):
            self.assertFalse(issubclass(getattr(errors, name), errors.YardError), name)
            self.assertFalse(issubclass(getattr(errors, name), ValueError), name)
        self.assertFalse(issubclass(errors.NothingLeft, errors.Missing))

    def test_straight_under_yard_error(self):
        for name in FIELDS:
            self.assertEqual(getattr(errors, name).__bases__, (errors.YardError,), name)

    def test_straight_under_missing(self):
        for name in MISSING:
            self.assertEqual(getattr(errors, name).__bases__, (errors.Missing,), name)

    def test_no_other_class(self):
        names = {name for name, thing in vars(errors).items() if inspect.isclass(thing)}
        self.assertEqual(names, {*FIELDS, *MISSING, "YardError", "Missing", "NothingLeft"})
        self.assertEqual(len(FIELDS), 25)


class Fields(unittest.TestCase):
    def check(self, name, fields):
        maker = getattr(errors, name)
        given = worths(fields)
        error = maker(*given)
        want = dict(zip(fields, given), word=name.lower())
        self.assertEqual(vars(error), want, name)
        self.assertEqual(vars(maker(**dict(zip(fields, given)))), want, name)
        self.assertIsInstance(str(error), str)

    def test_each_by_place_and_by_name(self):
        for name, fields in [*FIELDS.items(), *MISSING.items(), ("NothingLeft", ())]:
            with self.subTest(name=name):
                self.check(name, fields)

    def test_made_with_these_fields_and_no_more(self):
        for name, fields in [*FIELDS.items(), *MISSING.items(), ("NothingLeft", ())]:
            names = list(inspect.signature(getattr(errors, name)).parameters)
            self.assertEqual(names, list(fields), name)

    def test_only_the_row_of_bad_text_may_be_left_out(self):
        for name, fields in [*FIELDS.items(), *MISSING.items()]:
            for parameter in inspect.signature(getattr(errors, name)).parameters.values():
                want = 0 if name == "BadText" else inspect.Parameter.empty
                self.assertEqual(parameter.default, want, name)
        self.assertEqual(errors.BadText().row, 0)
        self.assertEqual(errors.BadText(5).row, 5)

    def test_numbers_far_beyond_are_as_handed_in(self):
        far = 10 ** 39 + 1
        for name in ("BadWork", "BadWay", "BadDay", "BadStuff", "BadBound", "BadMost"):
            field = FIELDS[name][0]
            self.assertEqual(getattr(getattr(errors, name)(far), field), far)
            self.assertEqual(getattr(getattr(errors, name)(-far), field), -far)

    def test_missing_tells_a_name_or_a_number(self):
        self.assertEqual(errors.NoTie(4).name, 4)
        self.assertEqual(errors.NoWork("ox").name, "ox")

    def test_the_log_is_kept_as_a_copy(self):
        log = [((), ("led", 0))]
        error = errors.NoPlan(log)
        log.append(((), ()))
        self.assertEqual(error.log, [((), ("led", 0))])
        error.log.append(1)
        self.assertEqual(log, [((), ("led", 0)), ((), ())])


class Caught(unittest.TestCase):
    def test_by_its_own_name_and_by_its_base(self):
        for name, fields in FIELDS.items():
            maker = getattr(errors, name)
            for base in (maker, errors.YardError, ValueError):
                with self.assertRaises(base):
                    raise maker(*worths(fields))
        for name, fields in MISSING.items():
            maker = getattr(errors, name)
            for base in (maker, errors.Missing, LookupError):
                with self.assertRaises(base):
                    raise maker(*worths(fields))
        with self.assertRaises(IndexError):
            raise errors.NothingLeft()


if __name__ == "__main__":
    unittest.main()
