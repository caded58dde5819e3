"""The interface, mailslots/errors.py: the refusals and their values."""

import unittest

from mailslots import errors

ALL = ("BadTown", "BadLetter", "BadTime", "BadPerson", "BadKeep", "BadText")


class ErrorsTest(unittest.TestCase):
    def test_mail_error_is_a_value_error(self):
        self.assertEqual(errors.MailError.__bases__, (ValueError,))

    def test_each_stands_directly_under_mail_error(self):
        for name in ALL:
            with self.subTest(name):
                self.assertEqual(getattr(errors, name).__bases__, (errors.MailError,))

    def test_there_are_no_others(self):
        defined = {name for name, value in vars(errors).items() if isinstance(value, type)}
        self.assertEqual(defined, {"MailError", *ALL})

    def test_values_are_set_when_an_error_is_created(self):
        town = errors.BadTown("homes", 3)
        self.assertEqual(vars(town), {"word": "homes", "number": 3})
        self.assertEqual(vars(errors.BadText(7)), {"row": 7})

    def test_values_belong_to_each_object(self):
        first, second = errors.BadTown("days", 0), errors.BadTown("orders", 19)
        self.assertEqual((first.word, first.number), ("days", 0))
        self.assertEqual((second.word, second.number), ("orders", 19))

    def test_the_others_have_a_message_and_no_values(self):
        for name in ("BadLetter", "BadTime", "BadPerson", "BadKeep"):
            with self.subTest(name):
                error = getattr(errors, name)("why")
                self.assertEqual((str(error), vars(error)), ("why", {}))


if __name__ == "__main__":
    unittest.main()
