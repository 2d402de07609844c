"""The interface, outlasts/errors.py: which classes there are, and how they are made."""

import unittest

from outlasts import errors

BARE = (
    "NoBook", "NoTime", "NoShare", "NoParts", "NoPlain", "NoKind", "NoMarks", "NoWord", "NoFull",
    "NoNumber", "NoBand", "NoName", "NoDay", "NoDeed", "NoFraction", "NoText", "NoLine",
)
ALL = BARE + ("TooMany",)


def made(name):
    if name == "TooMany":
        return errors.TooMany(13, 12)
    return getattr(errors, name)()


class Errors(unittest.TestCase):
    def test_span_error_stands_straight_under_value_error(self):
        self.assertEqual(errors.SpanError.__bases__, (ValueError,))

    def test_each_stands_straight_under_span_error(self):
        for name in ALL:
            with self.subTest(name=name):
                self.assertEqual(getattr(errors, name).__bases__, (errors.SpanError,))

    def test_each_is_of_no_other_class_of_the_list(self):
        for name in ALL:
            error = made(name)
            self.assertIsInstance(error, errors.SpanError)
            self.assertIsInstance(error, ValueError)
            for other in ALL:
                with self.subTest(name=name, other=other):
                    self.assertEqual(isinstance(error, getattr(errors, other)), name == other)

    def test_each_is_caught_as_span_error_and_by_its_own_name(self):
        for name in ALL:
            for above in (errors.SpanError, ValueError, getattr(errors, name)):
                with self.subTest(name=name, above=above), self.assertRaises(above):
                    raise made(name)

    def test_each_but_too_many_is_made_without_anything(self):
        for name in BARE:
            with self.subTest(name=name):
                self.assertIs(type(getattr(errors, name)()), getattr(errors, name))

    def test_too_many_has_its_two_fields_in_their_order(self):
        error = errors.TooMany(13, 12)
        self.assertEqual((error.many, error.most), (13, 12))

    def test_too_many_is_made_by_name_in_any_order(self):
        for error in (errors.TooMany(most=12, many=13), errors.TooMany(13, most=12)):
            self.assertEqual((error.many, error.most), (13, 12))

    def test_too_many_wants_both_fields(self):
        with self.assertRaises(TypeError):
            errors.TooMany()
        with self.assertRaises(TypeError):
            errors.TooMany(13)

    def test_too_many_keeps_its_fields_when_raised(self):
        with self.assertRaises(errors.TooMany) as caught:
            raise errors.TooMany(most=12, many=40)
        self.assertEqual((caught.exception.many, caught.exception.most), (40, 12))


if __name__ == "__main__":
    unittest.main()
