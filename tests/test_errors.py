import copy
import unittest

from spelledways import errors
from tests.common import Case, odd_values

WITH_AT = ("InvalidKey", "InvalidValue", "InvalidRange", "InvalidOctets", "InvalidGraph", "InvalidLine", "InvalidWalk",
           "InvalidQuestion", "InvalidAsk", "InvalidPattern", "InvalidDeed", "InvalidText")
WITH_WORD = ("InvalidSize", "Refused")


class ErrorsTest(Case):
    def test_all_are_direct_subclasses(self):
        self.assertEqual(errors.StoreError.__bases__, (Exception,))
        for name in WITH_AT + WITH_WORD + ("InvalidCommand",):
            self.assertEqual(getattr(errors, name).__bases__, (errors.StoreError,), name)
        self.assertEqual(errors.NoName.__bases__, (KeyError,))

    def test_errors_keep_their_arguments(self):
        for things, word in ((WITH_AT, "at"), (WITH_WORD, "word"), (("NoName",), "name")):
            for name in things:
                for thing in odd_values():
                    made = getattr(errors, name)(thing)
                    self.assertIs(getattr(made, word), thing)
                    self.assertEqual(list(vars(made)), [word])
                    self.assertIs(getattr(getattr(errors, name)(**{word: thing}), word), thing)

    def test_a_kept_list_is_the_list_itself(self):
        things = [1]
        made = errors.NoName(things)
        things.append(2)
        self.assertEqual(made.name, [1, 2])

    def test_a_command_error_keeps_nothing(self):
        self.assertEqual(vars(errors.InvalidCommand()), {})

    def test_errors_can_be_copied(self):
        self.assertEqual(copy.copy(errors.InvalidKey(4)).at, 4)


if __name__ == "__main__":
    unittest.main()
