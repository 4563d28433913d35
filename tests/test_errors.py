"""The interface's errors.py: every class, its place among the others, its values."""

import unittest

from saidroad import errors

VALUES = {
    "BadWalkers": ("number",),
    "BadChain": ("number",),
    "BadDeed": ("number",),
    "BadPlace": (),
    "BadTime": (),
    "BadPoint": (),
    "NoWalker": (),
    "NeverKnown": (),
    "Halted": ("number", "done"),
    "BadText": ("row",),
}


def made(name):
    """An error of that class, with the values 3, 4, .. or a wording, as the program makes it."""
    many = len(VALUES[name])
    return getattr(errors, name)(*([3, 4][:many] or ["why"]))


class Errors(unittest.TestCase):
    def test_road_error_is_a_value_error(self):
        self.assertTrue(issubclass(errors.RoadError, ValueError))
        self.assertEqual(errors.RoadError.__module__, "saidroad.errors")

    def test_each_is_defined_here_as_a_road_error(self):
        for name in VALUES:
            with self.subTest(name):
                kind = getattr(errors, name)
                self.assertEqual(kind.__module__, "saidroad.errors")
                self.assertEqual(kind.__name__, name)
                self.assertTrue(issubclass(kind, errors.RoadError))

    def test_none_stands_under_another_one(self):
        for name in VALUES:
            for other in VALUES:
                if name != other:
                    with self.subTest(f"{name} {other}"):
                        self.assertFalse(issubclass(getattr(errors, name), getattr(errors, other)))

    def test_values_are_set_when_one_is_created(self):
        for name, values in VALUES.items():
            with self.subTest(name):
                self.assertEqual(vars(made(name)), dict(zip(values, [3, 4])))

    def test_each_can_be_raised_and_has_a_wording(self):
        for name in VALUES:
            with self.subTest(name):
                with self.assertRaises(errors.RoadError) as caught:
                    raise made(name)
                self.assertTrue(str(caught.exception))


if __name__ == "__main__":
    unittest.main()
