"""The errors: classes, bases and attributes."""

import unittest

from mailforwards import errors

ATTRIBUTES = {
    "InvalidOrder": ["index"],
    "InvalidAddress": [],
    "InvalidDay": [],
    "InvalidNumber": [],
    "UnknownOrder": ["index"],
    "AlreadyOpen": [],
    "NotHolding": ["index"],
    "UnknownLetter": ["letter"],
    "InvalidOperation": ["index"],
    "Contradiction": [],
    "NotationError": ["row", "word"],
    "InvalidCount": [],
    "DecodeError": ["offset"],
}


class Errors(unittest.TestCase):

    def test_base_class(self):
        self.assertEqual(errors.MailError.__bases__, (ValueError,))
        self.assertEqual(errors.MailError.__module__, "mailforwards.errors")

    def test_each_class_is_a_direct_subclass_of_the_base(self):
        for name in ATTRIBUTES:
            with self.subTest(name=name):
                found = getattr(errors, name)
                self.assertEqual(found.__bases__, (errors.MailError,))
                self.assertEqual(found.__module__, "mailforwards.errors")
                self.assertEqual(found.__name__, name)

    def test_attributes_are_set_when_an_object_is_created(self):
        for name, attributes in ATTRIBUTES.items():
            with self.subTest(name=name):
                values = [10 + at for at in range(len(attributes))]
                by_place = getattr(errors, name)(*values)
                by_name = getattr(errors, name)(**dict(zip(attributes, values)))
                for found in (by_place, by_name):
                    self.assertEqual([getattr(found, word) for word in attributes], values)
                    self.assertEqual(vars(found), dict(zip(attributes, values)))

    def test_attributes_keep_any_value(self):
        for value in (None, True, -1, "one", (1, [2]), [3], 10 ** 5000):
            self.assertEqual(errors.UnknownOrder(value).index, value)
            self.assertEqual(errors.UnknownLetter(value).letter, value)

    def test_messages_can_be_written_for_any_value(self):
        for name, attributes in ATTRIBUTES.items():
            for value in (None, "one", [3], 10 ** 5000):
                with self.subTest(name=name):
                    found = getattr(errors, name)(*[value for _ in attributes])
                    self.assertIsInstance(str(found), str)

    def test_caught_as_the_base_and_as_a_value_error(self):
        for base in (errors.MailError, ValueError):
            with self.assertRaises(base):
                raise errors.NotationError(1, 2)


if __name__ == "__main__":
    unittest.main()
