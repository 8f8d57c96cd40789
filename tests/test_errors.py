"""The errors: their base, and their parameters, which are their attributes."""

import unittest

from serialhouse import errors
from serialhouse.errors import SerialError
from tests.helper import ANY

PARAMETERS = {
    "BadFormat": ("part",), "BadSheet": ("part",), "BadText": ("place",), "BadLetters": ("pairs",),
    "NotIn": ("word",), "TooLong": ("most",), "UnlikeRows": ("length",), "NoWords": ("length",),
    "Endless": ("paper",), "Uneven": ("shares",), "BadCode": ("part",), "TwoWays": ("paper",),
    "NoMessage": ("place",), "HasBeginnings": ("one", "other"), "TooMuch": ("share",), "BadLot": ("part",),
    "TooFar": ("most",), "TooMany": ("most",), "Doubles": ("paper",), "NotThin": ("paper",), "BadName": ("name",),
    "NameTaken": ("name",), "NoBook": ("name",), "NoName": ("name",), "NoWordLeft": ("name",),
    "IssuedBefore": ("word",), "NotDrawn": ("tosses",), "NotInForce": ("word",), "BadSign": ("sign",),
    "StillInForce": ("word",), "BadDeed": ("number",), "NothingToUndo": (), "InvalidCommand": ()}


class ErrorTest(unittest.TestCase):
    def test_base(self):
        self.assertEqual(SerialError.__bases__, (Exception,))
        for name in PARAMETERS:
            self.assertEqual(getattr(errors, name).__bases__, (SerialError,), name)

    def test_all_are_listed(self):
        defined = {name for name, thing in vars(errors).items() if isinstance(thing, type)}
        self.assertEqual(defined, set(PARAMETERS) | {"SerialError"})

    def test_parameters_are_attributes(self):
        for name, parameters in PARAMETERS.items():
            made = getattr(errors, name)
            for thing in ANY:
                things = [[thing, at] for at, _ in enumerate(parameters)]
                by_name = dict(zip(parameters, things))
                for error in (made(*things), made(**by_name)):
                    for parameter, worth in by_name.items():
                        self.assertIs(getattr(error, parameter), worth)
                    str(error)
                    repr(error)

    def test_too_few_and_too_many(self):
        for name, parameters in PARAMETERS.items():
            made = getattr(errors, name)
            if parameters:
                self.assertRaises(TypeError, made)
                self.assertRaises(TypeError, made, *range(len(parameters) + 1))

    def test_raised_and_caught(self):
        for name, parameters in PARAMETERS.items():
            with self.assertRaises(SerialError):
                raise getattr(errors, name)(*parameters)
