"""errors: the refusals of the interface."""

import inspect
import unittest

from onewhere import errors

NAMES = (
    "NoPoint NoMap NoFrames NoFrame NoRing NoPoints NoTile NoDepth NoTiles NotThere NoWeb NoRoad NoSpot NoClosed "
    "NoRows NoStreet NoNumber NoDay NoMoves NoRegion NoInstant NoZones NoTelling NoAtlas NoForm NoKind NoChain "
    "NoName NoDeed NoText NoLine"
).split()


class Errors(unittest.TestCase):
    def test_all_are_there_and_no_others(self):
        found = [name for name, thing in vars(errors).items() if inspect.isclass(thing)]
        self.assertEqual(sorted(found), sorted([*NAMES, "WhereError"]))

    def test_where_error_is_straight_under_value_error(self):
        self.assertEqual(errors.WhereError.__bases__, (ValueError,))

    def test_each_is_straight_under_where_error(self):
        for name in NAMES:
            with self.subTest(name):
                self.assertEqual(getattr(errors, name).__bases__, (errors.WhereError,))

    def test_none_is_under_another_one(self):
        for name in NAMES:
            for other in NAMES:
                if name != other:
                    self.assertFalse(issubclass(getattr(errors, name), getattr(errors, other)))

    def test_each_is_made_with_a_text(self):
        for name in ["WhereError", *NAMES]:
            with self.subTest(name):
                made = getattr(errors, name)("told so")
                self.assertEqual(str(made), "told so")
                self.assertEqual(made.args, ("told so",))
                with self.assertRaises(ValueError):
                    raise made
