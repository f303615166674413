"""Promise [0.3]: the error classes."""

import inspect
import unittest

from knownquiet import errors

PLAIN = (
    "NoHouse NoTask NoGiven NoStanding NothingThere NoNumber NoState NoShare NoWord NoSign NoPast NoDeed NoGlass "
    "NotQuiet NoMove Broken NoParts NoFolk NotFree NoLot NotAsked NoLetter IsFree NoMoment NoCut NoOrder NoParcel "
    "NoRow NoBlocks NoDisk OtherHouse NoLine NoEvent"
).split()
FIELDS = {
    "BadWorks": "part", "TooMany": "most", "BadRecord": "index", "BadRow": "place", "BadDeeds": "index",
    "BadText": "line", "NoName": "name",
}


def deep():
    found = []
    for _ in range(40):
        found = [found]
    return found


PASSED = [
    0, -1, 10 ** 19, True, None, "", "many", "a\nb", b"ab", 1.5, 2j, (), (1, (2,)), [], [1, [2]], {}, {"a": 1},
    set(), {1}, frozenset([1]), range(3), len, str, object(), Ellipsis, NotImplemented, ValueError("a"), deep(),
]


def all_errors():
    """One error of each class, by the class's name."""
    found = {name: getattr(errors, name)() for name in PLAIN}
    found.update({name: getattr(errors, name)(0) for name in FIELDS})
    return found


class ErrorsTest(unittest.TestCase):
    def test_there_are_forty(self):
        here = [name for name, what in vars(errors).items() if inspect.isclass(what)]
        self.assertEqual(len(PLAIN) + len(FIELDS), 40)
        self.assertEqual(sorted(here), sorted(PLAIN + list(FIELDS) + ["QuietError"]))

    def test_each_derives_directly(self):
        self.assertEqual(errors.QuietError.__bases__, (ValueError,))
        for name in all_errors():
            self.assertEqual(getattr(errors, name).__bases__, (errors.QuietError,), name)

    def test_each_is_of_its_own_class_alone(self):
        for name, error in all_errors().items():
            self.assertIsInstance(error, errors.QuietError)
            self.assertIsInstance(error, ValueError)
            for other in all_errors():
                self.assertEqual(isinstance(error, getattr(errors, other)), other == name, (name, other))
            self.assertNotIsInstance(error, (KeyError, IndexError, LookupError, ArithmeticError))

    def test_each_is_raised_and_caught(self):
        for name, error in all_errors().items():
            for catcher in (getattr(errors, name), errors.QuietError, ValueError):
                with self.assertRaises(catcher) as caught:
                    raise error
                self.assertIs(caught.exception, error)

    def test_fields_keep_what_is_passed(self):
        for name, field in FIELDS.items():
            for thing in PASSED:
                error = getattr(errors, name)(thing)
                self.assertIs(getattr(error, field), thing, (name, field))
                self.assertEqual(list(vars(error)), [field])

    def test_others_have_no_fields(self):
        for name in PLAIN:
            self.assertEqual(vars(getattr(errors, name)()), {})

    def test_those_with_fields_are_made_with_just_these(self):
        for name in FIELDS:
            with self.assertRaises(TypeError):
                getattr(errors, name)()
            with self.assertRaises(TypeError):
                getattr(errors, name)(1, 2)


if __name__ == "__main__":
    unittest.main()
