"""Promise [4]: the errors."""

import unittest

from tests.values import ANY
from whatmovesbuy import errors

OF_OWN_ERROR = {
    "BadSizes": "at", "BadPages": "at", "BadPicture": "at", "BadRun": "at", "BadOctets": "at", "BadText": "at",
    "Refused": "value", "Broken": "at", "NoRoom": "size", "TooGreat": "most",
}
OF_KEY_ERROR = {"NoBlock": "handle", "NoUnit": "value"}
WITH_ARGUMENT = {**OF_OWN_ERROR, **OF_KEY_ERROR}


class Errors(unittest.TestCase):
    def test_base_class(self):
        self.assertEqual(errors.OwnError.__bases__, (ValueError,))
        with self.assertRaises(ValueError):
            raise errors.OwnError()

    def test_direct_subclasses(self):
        for name in OF_OWN_ERROR:
            self.assertEqual(getattr(errors, name).__bases__, (errors.OwnError,), name)
        for name in OF_KEY_ERROR:
            self.assertEqual(getattr(errors, name).__bases__, (KeyError,), name)

    def test_none_is_of_another(self):
        classes = [getattr(errors, name) for name in WITH_ARGUMENT]
        for one in classes:
            for other in classes:
                self.assertEqual(issubclass(one, other), one is other, (one, other))
        for name in OF_KEY_ERROR:
            self.assertFalse(issubclass(getattr(errors, name), ValueError))

    def test_attribute_keeps_anything(self):
        for name, attribute in WITH_ARGUMENT.items():
            for value in ANY:
                with self.subTest(name):
                    self.assertIs(getattr(getattr(errors, name)(value), attribute), value)
                    self.assertIs(getattr(getattr(errors, name)(**{attribute: value}), attribute), value)

    def test_one_argument(self):
        for name in WITH_ARGUMENT:
            with self.assertRaises(TypeError):
                getattr(errors, name)()
            with self.assertRaises(TypeError):
                getattr(errors, name)(1, 2)

    def test_raised_and_caught(self):
        for name, attribute in WITH_ARGUMENT.items():
            kind = getattr(errors, name)
            with self.assertRaises(kind) as told:
                raise kind([1, "a"])
            self.assertEqual(getattr(told.exception, attribute), [1, "a"])


if __name__ == "__main__":
    unittest.main()
