import unittest

from wordweight.errors import Fault, Malformed, NoText, Refused, ZeroDivisor

KINDS = (ZeroDivisor, Malformed, Refused, NoText)


class Errors(unittest.TestCase):
    def test_each_is_a_fault_and_a_value_error(self):
        self.assertEqual(Fault.__bases__, (ValueError,))
        for kind in KINDS:
            self.assertTrue(issubclass(kind, Fault), kind)
            self.assertTrue(issubclass(kind, ValueError), kind)

    def test_none_is_a_subclass_of_another_one(self):
        for kind in KINDS:
            self.assertFalse(issubclass(Fault, kind), kind)
            for other in KINDS:
                self.assertEqual(issubclass(kind, other), kind is other, (kind, other))

    def test_reason_of_refused(self):
        for reason in ("letter", "star", "size"):
            self.assertEqual(Refused(reason).reason, reason)
            with self.assertRaises(Refused) as caught:
                raise Refused(reason)
            self.assertEqual(caught.exception.reason, reason)
        self.assertEqual(Refused(reason="name").reason, "name")

    def test_at_of_no_text(self):
        for at in (0, 1, 17, 10 ** 30):
            self.assertEqual(NoText(at).at, at)
            with self.assertRaises(NoText) as caught:
                raise NoText(at)
            self.assertEqual(caught.exception.at, at)
        self.assertEqual(NoText(at=4).at, 4)

    def test_they_are_caught_as_value_errors(self):
        for error in (Fault("x"), ZeroDivisor("x"), Malformed("x"), Refused("x"), NoText(3)):
            with self.assertRaises(ValueError):
                raise error
            with self.assertRaises(Fault):
                raise error
