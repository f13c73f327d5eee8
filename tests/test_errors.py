"""The classes of packdelta.errors, each against each other."""

import unittest

from packdelta import errors
from packdelta.errors import BadBound, BadRows, InRing, NoFit, NoVersion, PackError, TooFar

REFUSALS = (BadBound, BadRows, InRing, NoFit, NoVersion, TooFar)


class ClassesTest(unittest.TestCase):
    def test_any_refusal_is_a_value_error(self):
        self.assertEqual(PackError.__bases__, (ValueError,))

    def test_each_refusal_is_directly_under_pack_error(self):
        for refusal in REFUSALS:
            with self.subTest(refusal=refusal.__name__):
                self.assertEqual(refusal.__bases__, (PackError,))

    def test_none_is_under_another(self):
        for one in REFUSALS:
            for other in REFUSALS:
                with self.subTest(one=one.__name__, other=other.__name__):
                    self.assertEqual(issubclass(one, other), one is other)

    def test_each_has_its_name_and_stands_in_its_file(self):
        names = ("BadBound", "BadRows", "InRing", "NoFit", "NoVersion", "TooFar", "PackError")
        for name in names:
            with self.subTest(name=name):
                found = getattr(errors, name)
                self.assertEqual(found.__name__, name)
                self.assertEqual(found.__module__, "packdelta.errors")


class CatchingTest(unittest.TestCase):
    def test_each_is_caught_by_its_own_name_and_the_two_above(self):
        for refusal in REFUSALS:
            for caught in (refusal, PackError, ValueError):
                with self.subTest(refusal=refusal.__name__, caught=caught.__name__):
                    with self.assertRaises(caught):
                        raise refusal("refused")

    def test_none_is_caught_as_another(self):
        for refusal in REFUSALS:
            others = tuple(other for other in REFUSALS if other is not refusal)
            with self.subTest(refusal=refusal.__name__):
                self.assertEqual(self.caught_among(refusal, others), "not among these")

    def caught_among(self, refusal, others):
        try:
            raise refusal("refused")
        except others:
            return "among these"
        except PackError:
            return "not among these"

    def test_the_message_is_kept(self):
        for refusal in REFUSALS + (PackError,):
            with self.subTest(refusal=refusal.__name__):
                self.assertEqual(str(refusal("some words")), "some words")


if __name__ == "__main__":
    unittest.main()
