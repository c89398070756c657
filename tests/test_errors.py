"""The error classes [17]."""

import unittest

from lateshown import errors

LOOKUP = {
    "NoLine": ("line",), "NoPlace": ("place",), "NoStream": ("name",), "NoNumber": ("number",),
    "NothingDone": (), "NoPlan": ("name",), "NoFrame": ("name",),
}
VALUE = {
    "BadText": (), "NoLeaf": ("name",), "OtherLines": (), "OtherWrites": (), "NoRun": (), "NoOutput": (),
    "NoStart": ("place",), "NoWish": ("wish",), "NoSpot": ("spot",), "Outside": ("name",),
    "BadLine": ("number",), "Stopped": ("number", "raised", "value"),
}
ALL = {**LOOKUP, **VALUE}
WORTHS = {
    "line": ("a", 1), "place": 10 ** 40, "name": "abc", "number": -1, "wish": (("a", 1), ("b", 1)),
    "spot": ("a", 7), "raised": "NoStream", "value": "z",
}


class Errors(unittest.TestCase):
    def test_each_is_a_direct_subclass_of_its_builtin_class_alone(self):
        for base, names in ((LookupError, LOOKUP), (ValueError, VALUE)):
            for name in names:
                self.assertEqual(getattr(errors, name).__bases__, (base,), name)

    def test_there_are_no_others(self):
        own = [name for name, worth in vars(errors).items() if isinstance(worth, type)]
        self.assertEqual(sorted(own), sorted(ALL))

    def test_each_is_defined_in_this_file(self):
        for name in ALL:
            self.assertEqual(getattr(errors, name).__module__, "lateshown.errors")

    def test_values_by_position_and_by_name_stand_in_attributes(self):
        for name, attributes in ALL.items():
            worths = [WORTHS[attribute] for attribute in attributes]
            for error in (getattr(errors, name)(*worths), getattr(errors, name)(**dict(zip(attributes, worths)))):
                self.assertEqual([getattr(error, attribute) for attribute in attributes], worths)
                self.assertEqual(sorted(vars(error)), sorted(attributes))

    def test_values_that_they_keep_have_tuples_for_lists(self):
        self.assertEqual(errors.NoLine(["a", 1]).line, ("a", 1))
        self.assertEqual(errors.NoWish([["a", 1], ["b", 1]]).wish, (("a", 1), ("b", 1)))
        self.assertEqual(errors.NoSpot(["a", 7]).spot, ("a", 7))
        self.assertEqual(errors.Stopped(0, "NoLine", ["a", 1]).value, ("a", 1))
        self.assertIsNone(errors.Stopped(0, "OtherWrites", None).value)

    def test_they_can_be_raised(self):
        for name, attributes in ALL.items():
            with self.assertRaises(getattr(errors, name)):
                raise getattr(errors, name)(*[WORTHS[attribute] for attribute in attributes])


if __name__ == "__main__":
    unittest.main()
