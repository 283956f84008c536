"""All the errors of the package: their bases and their fields."""

import unittest

from spiralsays import errors

PART = (
    "BadRatio BadStep BadTable BadStem BadRow BadTold BadBook BadSaying BadNet BadRoad BadWindow BadCounted "
    "BadTie BadHeights BadNumber BadPaper BadDesk Round"
).split()
OTHERS = {
    "NoTold": ("number",), "NoHeight": ("number",), "NotNeighbours": ("one", "other"), "Common": ("divisor",),
    "Unlike": ("what",), "Impossible": ("paper",), "NoDeed": (), "TooMany": ("what", "most"),
    "BadText": ("line", "word"), "BadLine": ("line", "error"), "Missing": ("name",),
}
FIELDS = dict({name: ("part",) for name in PART}, **OTHERS)


class Errors(unittest.TestCase):
    def test_bases(self):
        self.assertEqual(errors.SpiralError.__bases__, (ValueError,))
        for name in FIELDS:
            self.assertEqual(getattr(errors, name).__bases__, (errors.SpiralError,), name)
        self.assertEqual(errors.NoName.__bases__, (errors.Missing,))

    def test_there_are_no_others(self):
        found = [name for name, value in vars(errors).items() if isinstance(value, type)]
        self.assertEqual(sorted(found), sorted([*FIELDS, "SpiralError", "NoName"]))

    def test_fields(self):
        values = [None, [1]]
        for name, fields in dict(FIELDS, NoName=("name",)).items():
            error_class = getattr(errors, name)
            given = values[:len(fields)]
            for error in (error_class(*given), error_class(**dict(zip(fields, given)))):
                self.assertEqual(vars(error), dict(zip(fields, given)), name)
                self.assertIsInstance(error, ValueError)
                for field, value in zip(fields, given):
                    self.assertIs(getattr(error, field), value)

    def test_base_has_no_fields(self):
        self.assertEqual(vars(errors.SpiralError()), {})
        self.assertEqual(vars(errors.NoDeed()), {})

    def test_caught_by_the_base(self):
        with self.assertRaises(errors.SpiralError):
            raise errors.NoName("a")
        with self.assertRaises(errors.Missing):
            raise errors.NoName("a")


if __name__ == "__main__":
    unittest.main()
