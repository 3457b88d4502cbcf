"""The refusals: their names, what stands above them, and their values."""

import unittest

from patchover import errors

WITHOUT_VALUES = (
    "BadEdition", "BadCount", "TooMany", "BadPieces", "BadMarks", "Underway", "Asleep", "Awake",
    "BadCell", "BadName", "Known", "NoName", "Around", "InUse", "NoDevice",
)
VALUES = {
    "BadPatch": "piece", "Beyond": "piece",
    "BadMeet": "number", "BadOrder": "number", "BadDeed": "number",
    "BadCode": "place", "BadImage": "place",
    "BadText": "row", "Halted": "row",
}


class TestErrors(unittest.TestCase):
    def test_patch_error_is_a_value_error(self):
        self.assertEqual(errors.PatchError.__bases__, (ValueError,))

    def test_each_class_stands_under_patch_error_alone(self):
        for name in (*WITHOUT_VALUES, *VALUES):
            with self.subTest(name):
                told = getattr(errors, name)
                self.assertEqual(told.__name__, name)
                self.assertEqual(told.__module__, "patchover.errors")
                self.assertEqual(told.__bases__, (errors.PatchError,))

    def test_there_are_no_other_classes(self):
        names = [name for name, told in vars(errors).items() if isinstance(told, type)]
        self.assertEqual(sorted(names), sorted(["PatchError", *WITHOUT_VALUES, *VALUES]))

    def test_each_value_has_its_name(self):
        for name, value in VALUES.items():
            for number in (0, 7):
                with self.subTest(name, number=number):
                    told = getattr(errors, name)(number)
                    self.assertEqual(vars(told), {value: number})

    def test_the_others_have_no_values(self):
        for name in WITHOUT_VALUES:
            with self.subTest(name):
                self.assertEqual(vars(getattr(errors, name)("why")), {})

    def test_each_has_a_message(self):
        for name in VALUES:
            with self.subTest(name):
                self.assertIn("31", str(getattr(errors, name)(31)))
        self.assertEqual(str(errors.BadCount("why")), "why")


if __name__ == "__main__":
    unittest.main()
