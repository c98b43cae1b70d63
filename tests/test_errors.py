"""Points 7 and 8: the errors."""

import unittest

from fewestrules.errors import BadValue, NotApplicable, RulesError, TextError, TooLarge


class Errors(unittest.TestCase):
    def test_all_are_rules_errors(self):
        self.assertEqual(RulesError.__bases__, (ValueError,))
        for kind in (BadValue, NotApplicable, TooLarge, TextError):
            self.assertTrue(issubclass(kind, RulesError))

    def test_none_is_a_subclass_of_another(self):
        kinds = (BadValue, NotApplicable, TooLarge, TextError)
        for one in kinds:
            for other in kinds:
                self.assertEqual(issubclass(one, other), one == other)

    def test_they_keep_what_they_are_given(self):
        self.assertEqual(BadValue("order").name, "order")
        fault = NotApplicable(3, "full")
        self.assertEqual((fault.index, fault.why), (3, "full"))
        self.assertEqual(TooLarge("rules").what, "rules")
        fault = TextError(16, "a strength is from 1 to 3")
        self.assertEqual((fault.column, fault.words), (16, "a strength is from 1 to 3"))

    def test_they_can_be_caught_by_the_base_class(self):
        for fault in (RulesError("x"), BadValue("x"), NotApplicable(0, "x"), TooLarge("x"), TextError(1, "x")):
            with self.assertRaises(RulesError):
                raise fault
