import unittest

import tossrow
from tossrow import errors


class TestErrors(unittest.TestCase):
    def test_package_binds_nothing(self):
        with open(tossrow.__file__, encoding="utf-8") as file:
            self.assertEqual(file.read().strip(), "")

    def test_all_are_below_toss_error_alone(self):
        self.assertEqual(errors.TossError.__bases__, (ValueError,))
        for name in ("NoRow", "Clash", "NoState", "NoThrow", "NoTurn", "NoWay", "NoLog", "NoText"):
            with self.subTest(name=name):
                kind = getattr(errors, name)
                self.assertEqual(kind.__bases__, (errors.TossError,))
                self.assertEqual(kind.__module__, "tossrow.errors")

    def test_plain_errors_are_made_with_or_without_words(self):
        for kind in (errors.TossError, errors.NoRow, errors.NoState, errors.NoThrow, errors.NoTurn, errors.NoWay):
            with self.subTest(kind=kind):
                self.assertIsInstance(kind(), ValueError)
                self.assertEqual(str(kind("told")), "told")

    def test_fields_of_clash(self):
        for refusal in (errors.Clash(3, 7), errors.Clash(one=3, other=7), errors.Clash(other=7, one=3)):
            self.assertEqual((refusal.one, refusal.other), (3, 7))
            self.assertNotEqual(str(refusal), "")

    def test_field_of_no_log_and_no_text(self):
        for kind in (errors.NoLog, errors.NoText):
            for refusal in (kind(4), kind(row=4)):
                self.assertEqual(refusal.row, 4)
                self.assertNotEqual(str(refusal), "")
