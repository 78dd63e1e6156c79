"""Points 0.2 and 0.3: the error classes."""

import unittest

from runsback import errors
from tests.samples import odd_integers, odd_strings, odd_things

BARE = ["NoRow", "NoNumber", "NoRoot", "NoDeeds", "NoRows", "NoPlan", "OtherDeeds", "BadPrices", "NoStanding",
        "NoDenied", "NoWeights", "NoGoals", "NoFlag", "Clash", "NothingDone", "NoLetter", "NoLine"]
TOLD = {"BadProgram": "part", "TooLong": "most", "TooLarge": "most", "TooMany": "most", "TooDeep": "most",
        "BadWorld": "part", "BadText": "line", "NoName": "name"}


class ErrorsTest(unittest.TestCase):
    def test_base(self):
        self.assertEqual(errors.RunsError.__bases__, (ValueError,))

    def test_all_derive_directly(self):
        for name in BARE + list(TOLD):
            with self.subTest(name):
                self.assertEqual(getattr(errors, name).__bases__, (errors.RunsError,))
                self.assertEqual(getattr(errors, name).__module__, "runsback.errors")

    def test_there_are_no_others(self):
        found = [name for name in vars(errors) if isinstance(getattr(errors, name), type)]
        self.assertEqual(sorted(found), sorted(BARE + list(TOLD) + ["RunsError"]))

    def test_bare_ones_take_nothing(self):
        for name in BARE:
            with self.subTest(name):
                error = getattr(errors, name)()
                self.assertIsInstance(error, ValueError)
                self.assertEqual(vars(error), {})
                with self.assertRaises(TypeError):
                    getattr(errors, name)("a")

    def test_fields_are_kept_whatever_they_are(self):
        for name, field in TOLD.items():
            for thing in odd_things() + odd_integers() + odd_strings():
                error = getattr(errors, name)(thing)
                self.assertIs(getattr(error, field), thing)
                self.assertEqual(list(vars(error)), [field])

    def test_just_one_field_is_taken(self):
        for name in TOLD:
            with self.subTest(name):
                with self.assertRaises(TypeError):
                    getattr(errors, name)()
                with self.assertRaises(TypeError):
                    getattr(errors, name)("a", "b")

    def test_just_the_class_is_caught(self):
        for name in BARE + list(TOLD):
            made = getattr(errors, name)() if name in BARE else getattr(errors, name)(5)
            for other in BARE + list(TOLD):
                self.assertEqual(isinstance(made, getattr(errors, other)), name == other)
