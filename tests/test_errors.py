"""The interface under notfound/errors.py."""

import unittest

from notfound import errors

KINDS = ["BadFact", "BadRule", "LooseSlot", "TooMany", "NotOpen", "NotLayered"]


class ErrorsTest(unittest.TestCase):

    def test_any_refusal_is_a_value_error(self):
        self.assertEqual(errors.NotfoundError.__bases__, (ValueError,))

    def test_each_kind_is_right_under_notfound_error(self):
        for name in KINDS:
            with self.subTest(name=name):
                self.assertEqual(getattr(errors, name).__bases__, (errors.NotfoundError,))

    def test_no_kind_is_under_another(self):
        for one in KINDS:
            for other in KINDS:
                if one != other:
                    with self.subTest(one=one, other=other):
                        self.assertFalse(issubclass(getattr(errors, one), getattr(errors, other)))

    def test_each_is_defined_in_its_file_under_its_name(self):
        for name in ["NotfoundError"] + KINDS:
            with self.subTest(name=name):
                self.assertEqual(getattr(errors, name).__module__, "notfound.errors")
                self.assertEqual(getattr(errors, name).__name__, name)

    def test_each_is_raised_with_words_and_caught_as_any_refusal(self):
        for name in KINDS:
            with self.subTest(name=name):
                with self.assertRaises(errors.NotfoundError) as caught:
                    raise getattr(errors, name)("why")
                self.assertEqual(str(caught.exception), "why")


if __name__ == "__main__":
    unittest.main()
