"""The exceptions of the interface."""

import unittest

from lastofkind import errors

PLAIN = (
    "NoSystem", "NoLog", "NoState", "NoOperation", "NoMoves", "NoEffect", "NoMatch", "NoNumber", "NotRight",
    "NotSteady", "NoText", "NothingDone",
)


class Errors(unittest.TestCase):
    def test_the_base_is_derived_from_value_error(self):
        self.assertEqual(errors.KindError.__bases__, (ValueError,))
        self.assertEqual(errors.KindError.__module__, "lastofkind.errors")
        self.assertIsInstance(errors.KindError(), ValueError)

    def test_each_other_one_is_directly_derived_from_it(self):
        for name in PLAIN + ("TooMany",):
            with self.subTest(name=name):
                made = getattr(errors, name)
                self.assertEqual(made.__bases__, (errors.KindError,))
                self.assertEqual(made.__name__, name)
                self.assertEqual(made.__module__, "lastofkind.errors")

    def test_they_are_made_without_arguments_and_raised(self):
        for name in PLAIN + ("KindError",):
            with self.subTest(name=name):
                made = getattr(errors, name)
                with self.assertRaises(made) as caught:
                    raise made()
                self.assertIs(type(caught.exception), made)
                self.assertIsInstance(caught.exception, errors.KindError)

    def test_too_many_has_its_fields(self):
        error = errors.TooMany(41, 40)
        self.assertEqual((error.amount, error.limit), (41, 40))
        named = errors.TooMany(limit=6, amount=7)
        self.assertEqual((named.amount, named.limit), (7, 6))
        with self.assertRaises(errors.KindError):
            raise error

    def test_too_many_needs_its_fields(self):
        with self.assertRaises(TypeError):
            errors.TooMany()
        with self.assertRaises(TypeError):
            errors.TooMany(41)


if __name__ == "__main__":
    unittest.main()
