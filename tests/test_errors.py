"""The errors of 0.3, all fifty."""

import copy
import pickle
import unittest

from exactbeats import errors

WITHOUT = """NoLines NoMost NoOutput NoKey KeyThere NothingThere NoPlane FewPlanes NoPhase NoStanding NoMatching NoLine
NoCopies CameAlready NoPlace NoCell NoNumber NoPacket BadLoad Twice Mixed NoArrivals NoSaying NoTale NoSizes NoPlanes
NoWeb NotColoured NoPair NoWishes NoWish NoStream Boundless NoTable NotEven""".split()
WITH = {
    "BadCell": ("part",), "BadBuckets": ("part",), "BadArrivals": ("at",), "BadScheduler": ("at",),
    "BadRanks": ("which",), "TooMany": ("most",), "BadProgram": ("place",), "NoPrograms": ("output",),
    "BadText": ("line",), "BadRows": ("line",), "TooFew": ("degree",), "Barred": ("wish",),
    "Late": ("output", "cell"), "NoWay": ("side", "box"), "TooFull": ("side", "line"),
}
FIELDS = {**{name: () for name in WITHOUT}, **WITH}
ANYTHING = [None, True, 0, -1, 10 ** 59, "", "part", b"", (), (1, 2), [], [1], {}, {1: 2}, object(), len, ValueError]


class Errors(unittest.TestCase):
    def test_there_are_just_these(self):
        self.assertEqual(len(FIELDS), 50)
        found = [name for name, thing in vars(errors).items() if isinstance(thing, type)]
        self.assertEqual(sorted(found), sorted([*FIELDS, "FabricError"]))

    def test_they_derive_directly(self):
        self.assertEqual(errors.FabricError.__bases__, (ValueError,))
        for name in FIELDS:
            error = getattr(errors, name)
            self.assertEqual(error.__bases__, (errors.FabricError,))
            self.assertEqual((error.__name__, error.__module__), (name, "exactbeats.errors"))

    def test_fields_hold_what_is_passed(self):
        for name, fields in FIELDS.items():
            for first in ANYTHING:
                for second in ANYTHING:
                    passed = (first, second)[:len(fields)]
                    error = getattr(errors, name)(*passed)
                    self.assertEqual(list(vars(error)), list(fields))
                    for field, thing in zip(fields, passed):
                        self.assertIs(getattr(error, field), thing)

    def test_fields_are_needed(self):
        for name, fields in WITH.items():
            for many in range(4):
                if many != len(fields):
                    with self.assertRaises(TypeError):
                        getattr(errors, name)(*range(many))

    def test_each_is_equal_to_itself_alone(self):
        for name, fields in FIELDS.items():
            error, other = [getattr(errors, name)(*range(len(fields))) for _ in range(2)]
            self.assertTrue(error == error)
            self.assertFalse(error == other)

    def test_they_can_be_copied(self):
        for name, fields in FIELDS.items():
            error = getattr(errors, name)(*range(len(fields)))
            for other in (copy.copy(error), pickle.loads(pickle.dumps(error))):
                self.assertIs(other.__class__, error.__class__)
                self.assertEqual(vars(other), vars(error))


if __name__ == "__main__":
    unittest.main()
