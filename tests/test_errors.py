import unittest

from layermap import errors

NAMES = [
    "BadStack", "BadKey", "BadValue", "Missing", "BadDeed", "BadColumn", "BadPromise",
    "NothingDone", "BadSteps", "BadText", "BadHands", "BadLayer", "BadFlag",
]


class ErrorsTest(unittest.TestCase):
    def test_layer_error_is_a_direct_subclass_of_value_error(self):
        self.assertEqual(errors.LayerError.__bases__, (ValueError,))

    def test_direct_subclasses(self):
        for name in NAMES:
            self.assertEqual(getattr(errors, name).__bases__, (errors.LayerError,), name)
        self.assertEqual(sorted(one.__name__ for one in errors.LayerError.__subclasses__()), sorted(NAMES))

    def test_attributes_are_set_when_created(self):
        self.assertEqual(errors.BadStack("LAYERS").part, "LAYERS")
        self.assertIsNone(errors.BadStack(None).part)
        self.assertEqual(errors.Missing(-4).number, -4)
        self.assertEqual(errors.BadSteps(2).index, 2)
        self.assertIsNone(errors.BadSteps(None).index)
        self.assertEqual(errors.BadText(3).row, 3)
        self.assertEqual(errors.BadHands("base").part, "base")
        self.assertIsNone(errors.BadHands(None).part)

    def test_each_can_be_raised_and_caught_as_a_layer_error(self):
        made = [
            errors.BadStack("CONTENTS"), errors.BadKey("k"), errors.BadValue("v"), errors.Missing(1),
            errors.BadDeed("d"), errors.BadColumn("c"), errors.BadPromise("p"), errors.NothingDone("n"),
            errors.BadSteps(0), errors.BadText(0), errors.BadHands("first"), errors.BadLayer("l"), errors.BadFlag("f"),
        ]
        for error in made:
            with self.assertRaises(errors.LayerError):
                raise error


if __name__ == "__main__":
    unittest.main()
