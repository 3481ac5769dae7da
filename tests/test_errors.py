"""[2] and the interface of failsalike.errors."""

import copy
import unittest

from failsalike import errors
from failsalike.errors import FailsError
from tests.samples import anything, nested

PARAMETERS = {
    "Failed": ("word", "place", "numbers"),
    "NameTaken": ("name",),
    "BadTable": ("part",),
    "NoTable": ("name",),
    "NoColumn": ("name",),
    "BadRow": ("column",),
    "KeyTaken": ("column",),
    "NoRow": ("number",),
    "NoQuestion": (),
    "NotPlain": (),
    "TooGreat": ("limit",),
    "NoPlan": (),
    "Outdated": ("fact",),
    "NoGoal": ("number",),
    "NoCourse": ("number",),
    "InvalidText": (),
    "InvalidCommand": (),
    "NothingAsked": (),
    "NoRun": (),
}


def made(name, arguments):
    """The error of this name, made by position, by name, and partly by name."""
    names = PARAMETERS[name]
    error = getattr(errors, name)
    found = []
    for first in range(len(names) + 1):
        found.append(error(*arguments[:first], **dict(zip(names[first:], arguments[first:]))))
    return found


def odd_values():
    """Any values, and some that are greater than any."""
    return anything() + [10**5000, "x" * 100000, nested(900), object(), 0.5, b"a", {1, 2}]


class Classes(unittest.TestCase):
    def test_there_are_nineteen_and_their_base(self):
        classes = {name for name, thing in vars(errors).items() if isinstance(thing, type)}
        self.assertEqual(classes, set(PARAMETERS) | {"FailsError"})
        self.assertEqual(len(PARAMETERS), 19)

    def test_each_has_only_the_base_class(self):
        self.assertEqual(FailsError.__bases__, (Exception,))
        for name in PARAMETERS:
            self.assertEqual(getattr(errors, name).__bases__, (FailsError,), name)

    def test_each_is_defined_in_the_file(self):
        for name in ("FailsError", *PARAMETERS):
            self.assertEqual(getattr(errors, name).__module__, "failsalike.errors", name)
            self.assertEqual(getattr(errors, name).__name__, name)

    def test_instance_of_its_own_class_and_of_no_other(self):
        for name, parameters in PARAMETERS.items():
            for error in made(name, ["x"] * len(parameters)):
                of = [other for other in PARAMETERS if isinstance(error, getattr(errors, other))]
                self.assertEqual(of, [name])
                self.assertIsInstance(error, FailsError)
                self.assertEqual(type(error).__mro__[1:], (FailsError, Exception, BaseException, object))

    def test_the_base_is_none_of_the_others(self):
        error = FailsError()
        self.assertIsInstance(error, Exception)
        self.assertEqual([name for name in PARAMETERS if isinstance(error, getattr(errors, name))], [])
        self.assertEqual(vars(error), {})


class Parameters(unittest.TestCase):
    def check(self, error, name, arguments):
        """The attributes are just what was passed, in their order, and nothing else."""
        self.assertEqual(list(vars(error)), list(PARAMETERS[name]))
        for parameter, argument in zip(PARAMETERS[name], arguments):
            self.assertIs(getattr(error, parameter), argument)

    def test_each_parameter_is_an_attribute(self):
        for name, parameters in PARAMETERS.items():
            for thing in odd_values():
                arguments = [thing, ("other", thing), [thing]][: len(parameters)]
                for error in made(name, arguments):
                    self.check(error, name, arguments)

    def test_attributes_stay(self):
        for name, parameters in PARAMETERS.items():
            arguments = [["a", 1], {"b": [True]}, (None, 10**30)][: len(parameters)]
            before = copy.deepcopy(arguments)
            for error in made(name, arguments):
                try:
                    try:
                        raise error
                    except FailsError as caught:
                        raise KeyError("another one") from caught
                except KeyError as later:
                    self.assertIs(later.__cause__, error)
                self.check(error, name, arguments)
                self.assertEqual(arguments, before)

    def test_two_errors_share_nothing(self):
        one, other = errors.NoTable("a"), errors.NoTable("b")
        self.assertEqual([one.name, other.name], ["a", "b"])

    def test_too_few_and_too_many(self):
        for name, parameters in PARAMETERS.items():
            error = getattr(errors, name)
            with self.assertRaises(TypeError):
                error(*["x"] * (len(parameters) + 1))
            with self.assertRaises(TypeError):
                error(*["x"] * len(parameters), more="x")
            if parameters:
                with self.assertRaises(TypeError):
                    error(*["x"] * (len(parameters) - 1))


class Raised(unittest.TestCase):
    def test_each_is_caught_by_its_own_name_and_by_the_base(self):
        for name, parameters in PARAMETERS.items():
            for error in made(name, [("x", 3)] * len(parameters)):
                for caught_as in (getattr(errors, name), FailsError, Exception):
                    with self.assertRaises(caught_as) as caught:
                        raise error
                    self.assertIs(caught.exception, error)

    def test_each_passes_by_the_others(self):
        for name, parameters in PARAMETERS.items():
            others = tuple(getattr(errors, other) for other in PARAMETERS if other != name)
            try:
                raise getattr(errors, name)(*["x"] * len(parameters))
            except others:
                self.fail(name)
            except FailsError as error:
                self.assertEqual(type(error).__name__, name)

    def test_the_base_is_raised(self):
        with self.assertRaises(FailsError) as caught:
            raise FailsError()
        self.assertIs(type(caught.exception), FailsError)

    def test_raised_by_the_class_alone(self):
        for name, parameters in PARAMETERS.items():
            if not parameters:
                with self.assertRaises(getattr(errors, name)):
                    raise getattr(errors, name)

    def test_errors_equal_nothing_else(self):
        for name, parameters in PARAMETERS.items():
            for error in made(name, ["x"] * len(parameters)):
                for thing in anything():
                    self.assertFalse(error == thing)
                    self.assertTrue(error != thing)
